"""The errors of the package: one class for each kind of thing that is refused."""


class GiveError(ValueError):
    """Whatever this package refuses."""


class InvalidRegistry(GiveError):
    """What should be part of a registry is none."""

    def __init__(self, at):
        self.at = at


class InvalidText(GiveError):
    """A text is no docket's."""

    def __init__(self, at):
        self.at = at


class InvalidPlan(GiveError):
    """What should be a plan, or a pack, is none."""

    def __init__(self, at):
        self.at = at


class InvalidDeed(GiveError):
    """A deed is none, or cannot be done."""

    def __init__(self, at):
        self.at = at


class InvalidLog(GiveError):
    """What should be a log is none."""

    def __init__(self, at):
        self.at = at


class InvalidQuestion(GiveError):
    """A question is asked about what it cannot be asked about."""

    def __init__(self, at):
        self.at = at


class Refused(GiveError):
    """An answer would be too long to find, or to tell."""

    def __init__(self, at):
        self.at = at


class InvalidCommand(GiveError):
    """A desk is told what is no command."""

    def __init__(self):
        pass
