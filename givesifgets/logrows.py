"""Rows of a log: deeds written as short texts, and read from them."""

DIGITS = "0123456789"
MOST_DIGITS = 1000


def number_of(word):
    """The number that a word is written for, None if it is for none."""
    # Python's own isdigit and int take digits of every script, the document those of ASCII alone
    if not 1 <= len(word) <= MOST_DIGITS or not all([sign in DIGITS for sign in word]):
        return None
    if len(word) > 1 and word[0] == "0":
        return None
    return int(word)


def _tie_word(tie):
    friend, person = tie
    return f"{friend}>{person}"


def _words_of(deed):
    """What a deed has behind its first word, in words."""
    if deed[0] == "test":
        return [str(deed[1]), str(deed[2]), "holds" if deed[3] else "fails"]
    if deed[0] == "ring":
        return [_tie_word(tie) for tie in deed[1]]
    if deed[0] == "link":
        return [_tie_word(deed[1])]
    if deed[0] == "come":
        first = "-" if deed[1] is None else str(deed[1])
        return [first] + [str(kind) for kind in deed[2]]
    return [str(thing) for thing in deed[1:]]


def row_of(deed):
    """The row of a deed."""
    return " ".join([deed[0]] + _words_of(deed)) + "."


def _tie_of(word):
    """The tie that a word is written for, None if it is for none."""
    friend, _, person = word.partition(">")
    tie = (number_of(friend), number_of(person))
    return None if None in tie else tie


def _test_of(words):
    friend, person, answer = words
    numbers = [number_of(friend), number_of(person)]
    if None in numbers or answer not in ("holds", "fails"):
        return None
    return ("test", numbers[0], numbers[1], answer == "holds")


def _ring_of(words):
    ties = tuple([_tie_of(word) for word in words])
    return None if None in ties else ("ring", ties)


def _come_of(words):
    numbers = [number_of(word) for word in words]
    if None in numbers[1:] or (numbers[0] is None and words[0] != "-"):
        return None
    return ("come", numbers[0], tuple(numbers[1:]))


def _single_of(word, thing):
    return None if thing is None else (word, thing)


def deed_of(row):
    """The deed of a row, any value, None if it is no deed's row."""
    if not isinstance(row, str) or not row.endswith("."):
        return None
    word, *words = row[:-1].split(" ")
    if word == "test" and len(words) == 3:
        return _test_of(words)
    if word == "ring" and len(words) >= 2:
        return _ring_of(words)
    if word == "link" and len(words) == 1:
        return _single_of(word, _tie_of(words[0]))
    if word in ("away", "back") and len(words) == 1:
        return _single_of(word, number_of(words[0]))
    if word == "come" and len(words) >= 1:
        return _come_of(words)
    if word == "day" and not words:
        return ("day",)
    return None
