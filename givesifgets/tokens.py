"""The tokens of a text."""

WORD_SIGNS = "abcdefghijklmnopqrstuvwxyzABCDEFGHIJKLMNOPQRSTUVWXYZ0123456789_"


def _line_end(text, at):
    end = text.find("\n", at)
    return len(text) if end < 0 else end


def _token_end(text, at):
    end = at
    # Python's own isalnum takes letters of every script, the document those of ASCII alone
    while end < len(text) and text[end] in WORD_SIGNS:
        end += 1
    return max(end, at + 1)


def _spans(text):
    """For each token the index of its first sign, and that behind its last one."""
    spans = []
    at = 0
    while at < len(text):
        if text[at] in " \n":
            at += 1
        elif text[at] == "#":
            at = _line_end(text, at)
        else:
            spans.append((at, _token_end(text, at)))
            at = spans[-1][1]
    return spans


def tokens_of(text):
    """The tokens of a text, in order."""
    return tuple([text[start:end] for start, end in _spans(text)])


def token_places(text):
    """For each token of a text the index of its first sign."""
    return tuple([start for start, _ in _spans(text)])
