"""The kinds: variables, two, pairs, either, functions; how they stand in a row, and how many values each has."""

from freecharge.reader import Reader
from freecharge.refusals import TooLarge, Unfit

VARIABLE = 0
TWO = 1
PAIR = 2
EITHER = 3
FUNCTION = 4

DEEPEST = 6
LARGEST = 256


def read_kind(reader, variables):
    """The nodes of the kind that stands next, each ahead of its parts: what it is, and which variable."""
    nodes = []
    # The depths of the parts still to be read: a row may nest deeper than calls within one another may.
    waiting = [1]
    while len(waiting) > 0:
        depth = waiting.pop()
        head = reader.take()
        if depth > DEEPEST or head > FUNCTION:
            raise Unfit()
        nodes.append((head, read_variable(reader, head, variables)))
        if head in (PAIR, EITHER, FUNCTION):
            waiting.extend([depth + 1, depth + 1])
    return nodes


def read_variable(reader, head, variables):
    if head != VARIABLE:
        return None
    variable = reader.take()
    if variable >= variables:
        raise Unfit()
    return variable


def read_kind_row(row, variables):
    """The nodes of the one kind that the whole row is."""
    reader = Reader(row)
    nodes = read_kind(reader, variables)
    if not reader.at_end():
        raise Unfit()
    return nodes


def kind_size(nodes, set_sizes):
    """How many values a kind has over sets of these sizes for the variables."""
    sizes = []
    # From the end on, a node comes when its parts' sizes are there, its first part's on top.
    for node in reversed(nodes):
        if node[0] == VARIABLE:
            size = set_sizes[node[1]]
        elif node[0] == TWO:
            size = 2
        else:
            first = sizes.pop()
            second = sizes.pop()
            size = joined_size(node[0], first, second)
        # Asked of each part, since a kind can be small over one that is too large.
        if size > LARGEST:
            raise TooLarge()
        sizes.append(size)
    return sizes[0]


def joined_size(head, first, second):
    if head == PAIR:
        return first * second
    if head == EITHER:
        return first + second
    return functions_size(first, second)


def functions_size(taken, given):
    size = 1
    for value in range(taken):
        size = size * given
    return size
