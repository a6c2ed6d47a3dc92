"""What is related of each kind, carried up from what is related of the variables.

A relation is a list of marks, one for each value on the left: a whole number whose bit y tells whether that value is
related to y on the right.
"""

from freecharge.kinds import EITHER, FUNCTION, PAIR, TWO, VARIABLE, functions_size, kind_size
from freecharge.refusals import TooLarge


def refuse_too_large(kind, left_sizes, right_sizes, largest, heaviest):
    kind_size(kind, left_sizes, largest)
    kind_size(kind, right_sizes, largest)
    if kind_weight(kind, left_sizes, right_sizes, largest) > heaviest:
        raise TooLarge()


def kind_weight(kind, left_sizes, right_sizes, largest):
    if kind[0] == VARIABLE or kind[0] == TWO:
        return 1
    first = kind_weight(kind[1], left_sizes, right_sizes, largest)
    second = kind_weight(kind[2], left_sizes, right_sizes, largest)
    weight = max(first, second)
    if kind[0] == FUNCTION:
        weight = weight * kind_size(kind[1], left_sizes, largest) * kind_size(kind[1], right_sizes, largest)
    return weight


def kind_relation(kind, right_sizes, told, largest):
    """The relation of a kind; told: those of the variables, right_sizes: how large their sets on the right are."""
    if kind[0] == VARIABLE:
        return told[kind[1]]
    if kind[0] == TWO:
        return [1, 2]
    first = kind_relation(kind[1], right_sizes, told, largest)
    second = kind_relation(kind[2], right_sizes, told, largest)
    first_size = kind_size(kind[1], right_sizes, largest)
    second_size = kind_size(kind[2], right_sizes, largest)
    if kind[0] == PAIR:
        return pair_relation(first, second, first_size, second_size)
    if kind[0] == EITHER:
        return first + [marks << first_size for marks in second]
    return function_relation(first, second, first_size, second_size)


def pair_relation(first, second, first_size, second_size):
    relation = []
    for marks in first:
        widened = spread(marks, first_size, second_size)
        # A product of marks marks each sum of a place in one and a place in the other; here no sum comes twice.
        relation.extend([widened * other for other in second])
    return relation


def function_relation(taken, given, taken_size, given_size):
    """The relation of functions, by those of what they take and give; the sizes are those on the right."""
    related_places = [places(marks, taken_size) for marks in taken]
    relation = []
    for function in range(functions_size(len(taken), len(given))):
        allowed = allowed_marks(function, related_places, given, taken_size, given_size)
        relation.append(functions_within(allowed, given_size))
    return relation


def allowed_marks(function, related_places, given, taken_size, given_size):
    """For each argument on the right, marks of what a function related to this one on the left may have for it."""
    allowed = [(1 << given_size) - 1] * taken_size
    rest = function
    for arguments in related_places:
        marks = given[rest % len(given)]
        rest = rest // len(given)
        for argument in arguments:
            allowed[argument] = allowed[argument] & marks
    return allowed


def functions_within(allowed, given_size):
    """Marks of the functions that have for each argument what is allowed for it."""
    found = 1
    power = 1
    for marks in allowed:
        found = found * spread(marks, given_size, power)
        power = power * given_size
    return found


def spread(marks, size, step):
    """The marks with each place multiplied by the step."""
    found = 0
    for place in places(marks, size):
        found = found | (1 << (place * step))
    return found


def places(marks, size):
    """The marked places below this size, rising."""
    return [place for place in range(size) if is_marked(marks, place)]


def is_marked(marks, place):
    return (marks >> place) & 1 == 1
