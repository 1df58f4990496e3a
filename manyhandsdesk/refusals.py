"""The refusals of a call, one error class each."""


class WrongArgument(Exception):
    """A number of characters out of bounds, a place that is none, a first day above the last (-1)."""


class NoneSuch(Exception):
    """Collections of different numbers of characters, no such record, no such kind (-2)."""


class DoesNotGo(Exception):
    """The collection doesn't go with the book (-3)."""


class WrongBytes(Exception):
    """Bytes that are not what they should be (-5): the rule that is broken, and the place."""

    def __init__(self, rule, place):
        self.rule = rule
        self.place = place


class TooMuch(Exception):
    """A book of too many bytes, a collection of too many records (-6)."""


class NothingThere(Exception):
    """There is no collection, or no book is open (-9)."""
