"""The refusals, each with the field what: what it is made with."""


class SheafError(ValueError):
    """Any refusal."""

    def __init__(self, what):
        self.what = what


class NoPart(SheafError):
    """There is no part of that name."""


class NoNode(SheafError):
    """There is no node of that name."""


class NoForm(SheafError):
    """There is no form of that name."""


class NoEdition(SheafError):
    """There is no edition of that name."""


class NoKey(SheafError):
    """There is no such key at the node."""


class NoDeed(SheafError):
    """There are not so many deeds."""


class There(SheafError):
    """Something of that name is there already."""


class InUse(SheafError):
    """What was to go is still needed."""


class TooLong(SheafError):
    """A key's worth has too many signs."""


class Unsound(SheafError):
    """What would stand is unsound."""


class Unlawful(SheafError):
    """An edition's book would have faults."""


class BadRow(SheafError):
    """A row of a text is not written as it should be."""
