"""All errors of the package."""


class OwnError(ValueError):
    """The base class of what is wrong with the form of a value."""


class BadOctets(OwnError):
    """No octets: at is -1 or the index of the first item that is none."""

    def __init__(self, at):
        self.at = at


class BadMachine(OwnError):
    """No machine: at is -1 or the part that is none."""

    def __init__(self, at):
        self.at = at


class BadHistory(OwnError):
    """No history, or no row of presses: at is -1 or the index of the first wrong item."""

    def __init__(self, at):
        self.at = at


class BadTable(OwnError):
    """No table: at is -1 or the part that is none."""

    def __init__(self, at):
        self.at = at


class BadText(OwnError):
    """No text of the form: at is 0 or the line, counted from 1."""

    def __init__(self, at):
        self.at = at


class Refused(OwnError):
    """This value cannot be taken here."""

    def __init__(self, value):
        self.value = value


class Broken(OwnError):
    """What is written cannot be read: at is the place."""

    def __init__(self, at):
        self.at = at


class TooGreat(OwnError):
    """A search found more than most things."""

    def __init__(self, most):
        self.most = most


class NoHand(KeyError):
    """There is no such hand."""

    def __init__(self, value):
        self.value = value


class NoDeed(KeyError):
    """There is no such deed."""

    def __init__(self, value):
        self.value = value


class NoBoard(KeyError):
    """There is no such board."""

    def __init__(self, value):
        self.value = value
