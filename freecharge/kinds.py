"""The kinds: variables, two, pairs, either, functions; how they stand in a row, and how many values each has.

A kind is a tuple: its head, then which variable it is, or its two parts.
"""

from freecharge.reader import Reader
from freecharge.refusals import TooLarge, Unfit

VARIABLE = 0
TWO = 1
PAIR = 2
EITHER = 3
FUNCTION = 4

DEEPEST = 6
LARGEST = 256


def read_kind(reader, variables, depth=1):
    """The kind that stands next."""
    # Refused before it is gone into, so that calls within one another stay as few as a kind may be deep.
    if depth > DEEPEST:
        raise Unfit()
    head = reader.take()
    if head == VARIABLE:
        return (VARIABLE, read_variable(reader, variables))
    if head == TWO:
        return (TWO,)
    if head > FUNCTION:
        raise Unfit()
    first = read_kind(reader, variables, depth + 1)
    second = read_kind(reader, variables, depth + 1)
    return (head, first, second)


def read_variable(reader, variables):
    variable = reader.take()
    if variable >= variables:
        raise Unfit()
    return variable


def read_kind_row(row, variables):
    """The one kind that the whole row is."""
    reader = Reader(row)
    kind = read_kind(reader, variables)
    if not reader.at_end():
        raise Unfit()
    return kind


def kind_row(kind):
    """The row of a kind: each part ahead of its own."""
    row = []
    waiting = [kind]
    while len(waiting) > 0:
        part = waiting.pop()
        row.append(part[0])
        if part[0] == VARIABLE:
            row.append(part[1])
        elif part[0] != TWO:
            waiting.append(part[2])
            waiting.append(part[1])
    return row


def kind_size(kind, set_sizes, largest):
    """How many values a kind has over sets of these sizes for the variables."""
    if kind[0] == VARIABLE:
        size = set_sizes[kind[1]]
    elif kind[0] == TWO:
        size = 2
    else:
        first = kind_size(kind[1], set_sizes, largest)
        second = kind_size(kind[2], set_sizes, largest)
        size = joined_size(kind[0], first, second)
    # Asked of each part, since a kind can be small over one that is too large.
    if size > largest:
        raise TooLarge()
    return size


def joined_size(head, first, second):
    if head == PAIR:
        return first * second
    if head == EITHER:
        return first + second
    return functions_size(first, second)


def functions_size(taken, given):
    size = 1
    for value in range(taken):
        size = size * given
    return size
