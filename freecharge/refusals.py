"""The refusals of calls, one error class each, and the error of a number that begins no call."""


class Unfit(Exception):
    """What is handed in names nothing that is there: refused with -1."""


class TooManyRelations(Exception):
    """The left sets are too large to go through all that may be related of them: refused with -3."""


class FaultyTerm(Exception):
    """A term in which kinds don't fit: refused with -7, the number of the part, and which fault it has."""

    def __init__(self, part_number, fault):
        self.part_number = part_number
        self.fault = fault


class TooLarge(Exception):
    """A kind, or one in it, has more values than are gone through, or the weight is too great: refused with -8."""


class UnknownCall(Exception):
    """A call's number that the program has no answer for."""
