"""Dockets written as texts."""


def _friend_words(friend, kind, owner):
    ending = ["free"] if owner is None else ["for", owner]
    return ["friend", friend, ":", kind, *ending]


def _entries(docket):
    """The tokens of each entry of a docket."""
    (fits, people, friends, barred), order, wishes = docket
    entries = [["kind", at, ":", *row] for at, row in enumerate(fits)]
    entries.extend([["person", at, ":", kind] for at, kind in enumerate(people)])
    entries.extend([_friend_words(at, kind, owner) for at, (kind, owner) in enumerate(friends)])
    entries.extend([["barred", friend, "to", person] for friend, person in barred])
    entries.append(["order", ":", *order])
    entries.extend([["wishes", at, ":", *row] for at, row in enumerate(wishes)])
    return [[str(word) for word in entry] + [";"] for entry in entries]


def docket_tokens(docket):
    """The tokens of a docket."""
    return tuple([word for entry in _entries(docket) for word in entry])


def docket_text(docket):
    """A text with just the tokens of a docket: a line for each entry."""
    return "\n".join([" ".join(entry) for entry in _entries(docket)]) + "\n"
