"""The errors of the package, each one keeping what it was raised with."""


class WreckError(ValueError):
    """What is passed or read is not as it must be."""


class BadOctets(WreckError):
    """No octets: -1 for no sequence, else the index of the first item that is none."""

    def __init__(self, at):
        self.at = at


class BadSetup(WreckError):
    """No setup: -1 for no sequence of three, else its first part that is not so."""

    def __init__(self, at):
        self.at = at


class BadFrame(WreckError):
    """No frame, or no row: -1 for the wrong shape, else its first part that is not so."""

    def __init__(self, at):
        self.at = at


class BadRows(WreckError):
    """No rows: -1 for no sequence or too many, else the first that cannot stand there."""

    def __init__(self, at):
        self.at = at


class BadRow(WreckError):
    """No row of a book: -1 for the wrong shape, else its first part that is not so."""

    def __init__(self, at):
        self.at = at


class BadText(WreckError):
    """No text that can be taken."""

    def __init__(self, at):
        self.at = at


class Refused(WreckError):
    """What was passed is not what it must be."""

    def __init__(self, at):
        self.at = at


class TooGreat(WreckError):
    """A search would go beyond what it was allowed."""

    def __init__(self, most):
        self.most = most


class Broken(WreckError):
    """What is read can't be gone on with from this place on."""

    def __init__(self, at):
        self.at = at


class Quarrel(WreckError):
    """What is told cannot be true together; the paper shows why."""

    def __init__(self, paper):
        self.paper = paper


class NoHappening(KeyError):
    """No happening of the rows."""

    def __init__(self, value):
        self.value = value


class NoChannel(KeyError):
    """No channel of the setup."""

    def __init__(self, value):
        self.value = value


class NoBlock(KeyError):
    """No block that is told."""

    def __init__(self, value):
        self.value = value


class Cut(Exception):
    """The power was cut."""
