"""What terms mean, as the numbers of values of their kinds.

A part is gone through once for all choices of the arguments around it together: its table has one number for each
choice, the innermost argument changing fastest. The term's weight bounds these tables, since what weighs 0 is gone
through without the arguments around it.
"""

from freecharge.kinds import LARGEST, kind_size
from freecharge.refusals import TooLarge
from freecharge.terms import CASES, FIRST, FUNCTION_TERM, LEFT, NO, PAIR_TERM, PUT, RIGHT, SECOND, VARIABLE_TERM, YES

HEAVIEST_TERM = 65536


def term_meaning(parts, set_sizes):
    """The number of what a term means, whose parts all have their kinds."""
    measure_parts(parts, set_sizes)
    return part_table(parts[0], [], set_sizes)[0]


def measure_parts(parts, set_sizes):
    for part in parts:
        part.extent = kind_size(part.kind, set_sizes, LARGEST)
    # From the end on, since a part's own parts have higher numbers.
    for part in reversed(parts):
        part.weight = found_weight(part, set_sizes)
    if parts[0].weight > HEAVIEST_TERM:
        raise TooLarge()


def found_weight(part, set_sizes):
    """The weight of a part whose own parts have theirs."""
    if part.head == FUNCTION_TERM:
        return kind_size(part.told, set_sizes, LARGEST) * part.parts[0].weight
    return max([own.weight for own in part.parts], default=1)


def part_table(part, around, set_sizes):
    """The table of a part; around: how many values each argument around it has, the innermost last."""
    # What has one value alone need not be gone into. Functions from none are such, and so are all functions that take
    # more than 8 values, since there are 256 functions at most.
    if part.extent == 1:
        return [0] * choices(around)
    # A weight of 0 doesn't bound how many choices are around. But then each variable in the part stands within a
    # function from none, which isn't gone into: the part means the same for all choices, so it's gone through for one.
    if part.weight == 0 and len(around) > 0:
        return part_table(part, [], set_sizes) * choices(around)
    if part.head == VARIABLE_TERM:
        return variable_table(part.told, around)
    if part.head == FUNCTION_TERM:
        return function_table(part, around, set_sizes)
    if part.head == YES:
        return [1] * choices(around)
    if part.head == NO:
        return [0] * choices(around)
    return joined_table(part, [part_table(own, around, set_sizes) for own in part.parts], set_sizes)


def choices(around):
    found = 1
    for size in around:
        found = found * size
    return found


def variable_table(told, around):
    place = len(around) - 1 - told
    size = around[place]
    step = choices(around[place + 1:])
    return [choice // step % size for choice in range(choices(around))]


def function_table(part, around, set_sizes):
    size = kind_size(part.told, set_sizes, LARGEST)
    body = part.parts[0]
    given = part_table(body, around + [size], set_sizes)
    table = [0] * choices(around)
    power = 1
    for argument in range(size):
        table = [number + value * power for number, value in zip(table, given[argument::size])]
        power = power * body.extent
    return table


def joined_table(part, tables, set_sizes):
    """The table of a part that has own parts and is no function, by the tables of these."""
    own = part.parts[0]
    if part.head == PAIR_TERM:
        size = part.parts[1].extent
        return [first * size + second for first, second in zip(tables[0], tables[1])]
    if part.head == FIRST:
        size = kind_size(own.kind[2], set_sizes, LARGEST)
        return [number // size for number in tables[0]]
    if part.head == SECOND:
        return [number % part.extent for number in tables[0]]
    if part.head == LEFT:
        return tables[0]
    if part.head == RIGHT:
        size = kind_size(part.told, set_sizes, LARGEST)
        return [number + size for number in tables[0]]
    if part.head == CASES:
        size = kind_size(own.kind[1], set_sizes, LARGEST)
        return cases_table(part, tables, size)
    if part.head == PUT:
        return put_table(tables[0], tables[1], part.extent, part.parts[1].extent)
    return [yes if asked == 1 else no for asked, yes, no in zip(tables[0], tables[1], tables[2])]


def cases_table(part, tables, size):
    """The table of cases; size: how many of the numbers are left ones."""
    given = part.extent
    powers = powers_of(given, part.parts[0].extent)
    return [for_left // powers[number] % given if number < size else for_right // powers[number - size] % given
            for number, for_left, for_right in zip(tables[0], tables[1], tables[2])]


def put_table(functions, arguments, given, taken):
    """The table of functions put to arguments; given, taken: how many values these may give and take."""
    powers = powers_of(given, taken)
    return [function // powers[argument] % given for function, argument in zip(functions, arguments)]


def powers_of(base, count):
    powers = []
    power = 1
    for turn in range(count):
        powers.append(power)
        power = power * base
    return powers
