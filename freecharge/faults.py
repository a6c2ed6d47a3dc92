"""The kinds of a term's parts, and the faults of terms in which they don't fit."""

from freecharge.kinds import EITHER, FUNCTION, PAIR, TWO
from freecharge.refusals import FaultyTerm
from freecharge.terms import CASES, FIRST, FUNCTION_TERM, IF, LEFT, PAIR_TERM, PUT, RIGHT, SECOND, VARIABLE_TERM

NO_FUNCTION = 1
NOT_WANTED = 2
NOT_THE_SAME = 3


def give_kinds(part, around):
    """Gives a part and all parts in it their kinds; around: the arguments' kinds of the functions around it."""
    inside = around
    if part.head == FUNCTION_TERM:
        inside = around + [part.told]
    for own in part.parts:
        give_kinds(own, inside)
    part.kind = found_kind(part, around)


def found_kind(part, around):
    """The kind of a part whose own parts have theirs."""
    kinds = [own.kind for own in part.parts]
    if part.head == VARIABLE_TERM:
        return variable_kind(part, around)
    if part.head == PAIR_TERM:
        return (PAIR, kinds[0], kinds[1])
    if part.head == FIRST:
        want(part, kinds[0], PAIR)
        return kinds[0][1]
    if part.head == SECOND:
        want(part, kinds[0], PAIR)
        return kinds[0][2]
    if part.head == LEFT:
        return (EITHER, kinds[0], part.told)
    if part.head == RIGHT:
        return (EITHER, part.told, kinds[0])
    if part.head == CASES:
        return cases_kind(part, kinds[0], kinds[1], kinds[2])
    if part.head == FUNCTION_TERM:
        return (FUNCTION, part.told, kinds[0])
    if part.head == PUT:
        return put_kind(part, kinds[0], kinds[1])
    if part.head == IF:
        return if_kind(part, kinds[0], kinds[1], kinds[2])
    return (TWO,)


def variable_kind(part, around):
    if part.told >= len(around):
        raise FaultyTerm(part.number, NO_FUNCTION)
    return around[len(around) - 1 - part.told]


def cases_kind(part, chosen, for_left, for_right):
    want(part, chosen, EITHER)
    want(part, for_left, FUNCTION)
    want(part, for_right, FUNCTION)
    want_same(part, for_left[1], chosen[1])
    want_same(part, for_right[1], chosen[2])
    want_same(part, for_left[2], for_right[2])
    return for_left[2]


def put_kind(part, function, argument):
    want(part, function, FUNCTION)
    want_same(part, function[1], argument)
    return function[2]


def if_kind(part, asked, for_yes, for_no):
    want(part, asked, TWO)
    want_same(part, for_yes, for_no)
    return for_yes


def want(part, kind, head):
    if kind[0] != head:
        raise FaultyTerm(part.number, NOT_WANTED)


def want_same(part, first, second):
    if first != second:
        raise FaultyTerm(part.number, NOT_THE_SAME)
