"""The desk: a house that is led by commands, and answers in words."""

from givesifgets.errors import InvalidCommand
from givesifgets.houses import House
from givesifgets.logrows import deed_of, number_of

MOST_DIGITS = 5


def _number(words):
    """The one number that a command has."""
    if len(words) != 1 or len(words[0]) > MOST_DIGITS or number_of(words[0]) is None:
        raise InvalidCommand()
    return number_of(words[0])


def _no_words(words):
    if words:
        raise InvalidCommand()


def _in_brackets(lot):
    return "(" + " ".join([str(person) for person in lot]) + ")"


def _do(house, words):
    deed = deed_of(" ".join(words))
    if deed is None:
        raise InvalidCommand()
    house.do(deed)
    return "ok"


def _cut(house, words):
    return str(house.cut(_number(words)))


def _plan(house, words):
    _no_words(words)
    pairs = [f"{u}+{v}" for u, v in house.plan()]
    return " ".join(pairs) if pairs else "nobody"


def _why(house, words):
    person = _number(words)
    reason = house.reason(person)
    if person in house.world()[2]:
        return "got"
    if person in house.world()[5]:
        return "away"
    if reason is None:
        return "kept"
    groups, few = reason
    return " ".join([_in_brackets(group) for group in groups] + ["by", _in_brackets(few)])


def _world(house, words):
    _no_words(words)
    day, _, got, gave, _, _ = house.world()
    return " ".join([str(thing) for thing in ("day", day, "got", *got, "gave", *gave)])


def _rows(house, words):
    _no_words(words)
    return str(len(house))


COMMANDS = {"do": _do, "cut": _cut, "plan": _plan, "why": _why, "world": _world, "rows": _rows}


class Desk:
    """Somebody's desk, with a house on it as soon as one is loaded."""

    def __init__(self):
        self.house = None

    def load(self, text):
        """Begin with the house of a docket, any value as its text."""
        self.house = House(text)
        return "ok"

    def say(self, command):
        """Do a command, any value, and answer it."""
        if self.house is None or not isinstance(command, str) or "\n" in command:
            raise InvalidCommand()
        word, *words = command.split(" ")
        if "" in words or word not in COMMANDS:
            raise InvalidCommand()
        action = COMMANDS[word]
        return action(self.house, words)
