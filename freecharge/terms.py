"""The terms: how they stand in a row, and their parts."""

from freecharge.kinds import read_kind
from freecharge.reader import Reader
from freecharge.refusals import Unfit

VARIABLE_TERM = 0
PAIR_TERM = 1
FIRST = 2
SECOND = 3
LEFT = 4
RIGHT = 5
CASES = 6
FUNCTION_TERM = 7
PUT = 8
YES = 9
NO = 10
IF = 11

# How many parts of its own a part has, by its head.
PART_COUNTS = (0, 2, 1, 1, 1, 1, 3, 1, 2, 0, 0, 3)

DEEPEST_TERM = 20


class Part:
    """A part of a term: its head, its number, and what it is told with (a variable's number, a kind, or nothing).

    Its kind, how many values that has (its extent) and its weight are found later.
    """

    def __init__(self, head, number, told):
        self.head = head
        self.number = number
        self.told = told
        self.parts = []
        self.kind = None
        self.extent = None
        self.weight = None


def read_term_row(row, variables):
    """All parts of the one term that the whole row is, by their numbers: the term itself is part 0."""
    reader = Reader(row)
    found = []
    read_term(reader, variables, 1, found)
    if not reader.at_end():
        raise Unfit()
    return found


def read_term(reader, variables, depth, found):
    """The term that stands next; its parts are put behind those that were found before."""
    # Refused before it is gone into, so that calls within one another stay as few as a term may be deep.
    if depth > DEEPEST_TERM:
        raise Unfit()
    head = reader.take()
    if head > IF:
        raise Unfit()
    part = Part(head, len(found), read_told(reader, head, variables))
    found.append(part)
    for turn in range(PART_COUNTS[head]):
        part.parts.append(read_term(reader, variables, depth + 1, found))
    return part


def read_told(reader, head, variables):
    if head == VARIABLE_TERM:
        return reader.take()
    if head in (LEFT, RIGHT, FUNCTION_TERM):
        return read_kind(reader, variables)
    return None
