"""The refusals of calls, one error class each, and the error of a call that is not written yet."""


class Unfit(Exception):
    """What is handed in names nothing that is there: refused with -1."""


class TooLarge(Exception):
    """A kind, or one in it, has more values than are gone through: refused with -8."""


class UnknownCall(Exception):
    """A call's number that the program has no answer for."""
