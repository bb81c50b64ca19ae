"""Dockets read from texts, token by token, and what may follow the tokens of a text."""

from givesifgets.errors import InvalidText
from givesifgets.registry import MOST_FRIENDS, MOST_KINDS, MOST_PEOPLE
from givesifgets.tokens import tokens_of
from givesifgets.webs import arcs_of


def _numbers(first, end):
    """The tokens of the numbers from the first one on, the end left out."""
    return [str(number) for number in range(first, end)]


class Draft:
    """A docket as far as its tokens are read.

    Whatever choices tells can be gone on with to a whole docket: what would
    lead nowhere is never among them, so the first token that is not chosen
    from them is the first wrong one.
    """

    def __init__(self):
        self.fits = []
        self.people = []
        self.friends = []
        self.barred = []
        self.order_read = None
        self.wishes_read = []
        # kinds may be named ahead of their entries: so many entries must come
        self.kinds_named = 1
        # for each person those whose friend he may want, known behind the order
        self.givers = []
        self.entry = []

    def choices(self):
        """The tokens that may come now; none behind a whole docket."""
        if not self.entry:
            return self.heads()
        steps = STEPS[self.entry[0]]
        return steps(self, self.entry)

    def heads(self):
        """The words with which an entry may begin now."""
        if self.order_read is not None:
            return ["wishes"] if len(self.wishes_read) < len(self.people) else []
        if len(self.fits) < self.kinds_named:
            return ["kind"]
        words = ["order"]
        if not self.barred:
            words.extend(self.heads_ahead())
        friend, _ = self.least_barred()
        if self.people and friend < len(self.friends):
            words.append("barred")
        return words

    def heads_ahead(self):
        """The words of entries that stand ahead of all barred pairs."""
        words = []
        if len(self.friends) < MOST_FRIENDS:
            words.append("friend")
        if not self.friends and len(self.people) < MOST_PEOPLE:
            words.append("person")
        if not self.friends and not self.people and len(self.fits) < MOST_KINDS:
            words.append("kind")
        return words

    def least_barred(self):
        """The least pair that may still be barred, its friend perhaps none that there is."""
        if not self.barred:
            return (0, 0)
        friend, person = self.barred[-1]
        return (friend, person + 1) if person + 1 < len(self.people) else (friend + 1, 0)

    def take(self, token):
        """Read one of the choices."""
        self.entry.append(token)
        if token == ";":
            self.file_entry()
            self.entry = []

    def file_entry(self):
        """Keep what the whole entry tells."""
        word = self.entry[0]
        if word == "kind":
            row = [int(token) for token in self.entry[3:-1]]
            self.fits.append(tuple(row))
            self.kinds_named = max([self.kinds_named] + [kind + 1 for kind in row])
        elif word == "person":
            self.people.append(int(self.entry[3]))
        elif word == "friend":
            owner = int(self.entry[5]) if self.entry[4] == "for" else None
            self.friends.append((int(self.entry[3]), owner))
        elif word == "barred":
            self.barred.append((int(self.entry[1]), int(self.entry[3])))
        elif word == "order":
            self.order_read = tuple([int(token) for token in self.entry[2:-1]])
            self.find_givers()
        else:
            self.wishes_read.append(tuple([int(token) for token in self.entry[3:-1]]))

    def registry(self):
        """The registry that was read."""
        return (tuple(self.fits), tuple(self.people), tuple(self.friends), tuple(self.barred))

    def find_givers(self):
        """Find whose friend each person may want."""
        self.givers = [[] for _ in self.people]
        for giver, person in arcs_of(self.registry())[1]:
            self.givers[person].append(giver)

    def docket(self):
        """The docket, when all of it is read."""
        return (self.registry(), self.order_read, tuple(self.wishes_read))


def _opening(number, entry):
    """What stands behind the word of an entry: its number, then a colon."""
    return [str(number)] if len(entry) == 1 else [":"]


def _in_kind(draft, entry):
    if len(entry) < 3:
        return _opening(len(draft.fits), entry)
    least = 0 if len(entry) == 3 else int(entry[-1]) + 1
    return _numbers(least, MOST_KINDS) + [";"]


def _in_person(draft, entry):
    if len(entry) < 3:
        return _opening(len(draft.people), entry)
    return _numbers(0, len(draft.fits)) if len(entry) == 3 else [";"]


def _in_friend(draft, entry):
    if len(entry) < 3:
        return _opening(len(draft.friends), entry)
    if len(entry) == 3:
        return _numbers(0, len(draft.fits))
    if len(entry) == 4:
        return ["for", "free"] if draft.people else ["free"]
    return _numbers(0, len(draft.people)) if entry[-1] == "for" else [";"]


def _in_barred(draft, entry):
    friend, person = draft.least_barred()
    if len(entry) == 1:
        return _numbers(friend, len(draft.friends))
    if len(entry) == 3:
        return _numbers(person if entry[1] == str(friend) else 0, len(draft.people))
    return ["to"] if len(entry) == 2 else [";"]


def _in_order(draft, entry):
    if len(entry) == 1:
        return [":"]
    told = set(entry)
    left = [token for token in _numbers(0, len(draft.people)) if token not in told]
    return left if left else [";"]


def _in_wishes(draft, entry):
    person = len(draft.wishes_read)
    if len(entry) < 3:
        return _opening(person, entry)
    told = set(entry[3:])
    if str(person) in told:
        return [";"]
    return [str(giver) for giver in draft.givers[person] if str(giver) not in told] + [str(person)]


STEPS = {
    "kind": _in_kind,
    "person": _in_person,
    "friend": _in_friend,
    "barred": _in_barred,
    "order": _in_order,
    "wishes": _in_wishes,
}


def _read(tokens):
    """The draft of the tokens as far as they are right, and how many these are."""
    draft = Draft()
    for at, token in enumerate(tokens):
        if token not in draft.choices():
            return (draft, at)
        draft.take(token)
    return (draft, len(tokens))


def read_docket(text):
    """The docket with just the tokens of the text, any value."""
    if not isinstance(text, str):
        raise InvalidText(0)
    tokens = tokens_of(text)
    draft, right = _read(tokens)
    if right < len(tokens) or draft.choices():
        raise InvalidText(right)
    return draft.docket()


def may_follow(text):
    """All tokens, ascending, with which some docket goes on behind those of the text."""
    tokens = tokens_of(text)
    draft, right = _read(tokens)
    return tuple(sorted(draft.choices())) if right == len(tokens) else ()


def _shortest(choices):
    """One of the choices, by which entries and dockets come to an end."""
    for token in (";", "order", "free"):
        if token in choices:
            return token
    # of wishes this is the person itself, which ends them
    return choices[-1]


def completed(text):
    """None, or some docket whose first tokens are all those of the text."""
    tokens = tokens_of(text)
    draft, right = _read(tokens)
    if right < len(tokens):
        return None
    choices = draft.choices()
    while choices:
        draft.take(_shortest(choices))
        choices = draft.choices()
    return draft.docket()
