"""Parts that weigh 0, since all in them stands within functions from none, wherever they stand in a term."""

import random
import tracemalloc
import unittest

from tests.calls import (NO, TWO, YES, ask_if, begin, both, cases, either, first, function, last, left, meaning, pair,
                         put, right, second, sets, taking, tell, use, var)
from tests.test_brute_force import SlowHouse, answer_of, start_of, term_row, type_depth, type_row

NONE, THREE, ONE = var(0), var(1), var(2)
HOUSE = [begin(3), sets(0, 0, 0), sets(1, 3, 3), sets(2, 1, 1)]
EIGHT = function(THREE, TWO)
FROM_NONE = taking(NONE, YES)
UNIT = function(NONE, TWO)

# Weightless terms of types of two elements, with their numbers: 1 of either one or unit, 0 of either unit or one, and
# both of either unit or unit.
RIGHT_ONE = right(ONE, FROM_NONE)
RIGHTS = either(ONE, UNIT)
LEFT_ONE = left(ONE, FROM_NONE)
NUMBER_0 = left(UNIT, FROM_NONE)
NUMBER_1 = right(UNIT, FROM_NONE)

# A few tables of 65536 numbers take less; one table for all choices, at least 8 times as many, takes more.
MOST_MEMORY = 4000000


def eights(layers, body):
    """Functions that take one of 8, within one another, each but the outermost put to the next one's argument."""
    row = taking(EIGHT, body)
    for layer in range(layers - 1):
        row = taking(EIGHT, put(row, use(0)))
    return row


def let(kind, argument, body):
    return put(taking(kind, body), argument)


def in_eights(body, number=0):
    """The body within two functions that take one of 8, put to the variable and to what weighs nothing."""
    return let(EIGHT, use(number), let(function(THREE, RIGHTS), taking(THREE, RIGHT_ONE), body))


def in_few(body):
    """The body within functions that take one of two and one of 8, both put to what weighs 1: fewer numbers."""
    return let(TWO, YES, let(EIGHT, use(1), body))


# Each with the number of what it gives always.
BODIES = {
    "left": (in_eights(LEFT_ONE), 0),
    "right": (in_eights(RIGHT_ONE), 1),
    "a type of pairs": (in_few(let(pair(RIGHTS, RIGHTS), both(RIGHT_ONE, RIGHT_ONE), RIGHT_ONE)), 1),
    "a type of either": (in_few(let(either(RIGHTS, UNIT), left(UNIT, RIGHT_ONE), RIGHT_ONE)), 1),
    "a pair within": (in_eights(second(both(LEFT_ONE, RIGHT_ONE))), 1),
    "a pair around": (first(both(in_eights(RIGHT_ONE), NO)), 1),
    "cases within, left": (in_few(cases(LEFT_ONE, taking(UNIT, NUMBER_1), taking(ONE, NUMBER_0))), 1),
    "cases within, right": (in_few(cases(RIGHT_ONE, taking(ONE, NUMBER_0), taking(UNIT, NUMBER_1))), 1),
    "cases around": (cases(in_few(RIGHT_ONE), taking(ONE, NUMBER_0), taking(UNIT, NUMBER_1)), 1),
    "if around": (ask_if(NO, NUMBER_0, in_few(NUMBER_1)), 1),
    "beside a variable": (second(both(use(0), in_eights(RIGHT_ONE))), 1),
    "beside what is asked of a variable": (let(TWO, YES, ask_if(use(0), in_eights(RIGHT_ONE, 1), RIGHT_ONE)), 1),
    "a variable within": (in_eights(left(ONE, taking(NONE, use(1)))), 0),
    "a function": (put(in_eights(taking(UNIT, RIGHT_ONE)), FROM_NONE), 1),
}


def memory_of(*calls):
    """What the last of these calls answers, and how much memory is taken at most."""
    tracemalloc.start()
    try:
        found = last(*calls)
        return found, tracemalloc.get_traced_memory()[1]
    finally:
        tracemalloc.stop()


class ManyChoicesAround(unittest.TestCase):
    def answered(self, row, number, house, side):
        found, memory = memory_of(*house, meaning(side, row))
        self.assertEqual(found[0], number)
        self.assertLess(memory, MOST_MEMORY)

    def test_each_body(self):
        for name, (body, number) in BODIES.items():
            row = eights(5, body)
            self.assertLessEqual(len(row), 100, name)
            for side in (0, 1):
                with self.subTest(name=name, side=side):
                    self.answered(row, 255 * number, HOUSE, side)

    def test_the_types_row(self):
        row = eights(5, in_eights(RIGHT_ONE))
        self.assertEqual(last(*HOUSE, meaning(0, row)), [255] + function(EIGHT, RIGHTS))

    def test_other_types_of_none(self):
        for none in (pair(NONE, TWO), pair(TWO, NONE), either(NONE, NONE), function(ONE, NONE), function(TWO, NONE)):
            body = right(ONE, taking(none, YES))
            kind = function(THREE, either(ONE, function(none, TWO)))
            row = eights(5, let(EIGHT, use(0), let(kind, taking(THREE, body), body)))
            self.assertLessEqual(len(row), 100)
            with self.subTest(none=none):
                self.answered(row, 255, HOUSE, 0)

    def test_none_on_one_side_alone(self):
        # With one element in the place of none the same functions weigh far too much.
        row = eights(5, in_eights(RIGHT_ONE))
        for side in (0, 1):
            house = HOUSE + [sets(0, side, 1 - side)]
            with self.subTest(side=side):
                self.answered(row, 255, house, side)
                self.assertEqual(last(*house, meaning(1 - side, row)), [-8])

    def test_next_to_too_much(self):
        # The variable weighs 1, and so the functions around it weigh all that they take.
        body = in_eights(second(both(use(0), RIGHT_ONE)))
        self.assertEqual(last(*HOUSE, meaning(0, eights(5, body))), [-8])
        self.assertEqual(last(*HOUSE, meaning(0, eights(3, body)))[0], 255)

    def test_as_many_calls_as_a_list_has_place_for(self):
        for name, (body, number) in BODIES.items():
            row = eights(5, body)
            with self.subTest(name=name):
                found = tell(*HOUSE, *[meaning(turn % 2, row) for turn in range(56)])[len(HOUSE):]
                self.assertEqual([answer[0] for answer in found], [255 * number] * 56)


def shifted(term, least):
    """The term as it stands within one more function: its variables from the least on count one more."""
    head, told, parts = term
    if head == 0:
        return (0, told + 1 if told >= least else told, [])
    return (head, told, [shifted(part, least + 1 if head == 7 else least) for part in parts])


def deepest_told(term):
    """How deep the deepest one of the types is that the term's parts are told with."""
    head, told, parts = term
    own = type_depth(told) if head in (4, 5, 7) else 0
    return max([own] + [deepest_told(part) for part in parts])


class WeightlessMaker:
    """Makes terms by chance, each with its type, that weigh 0 if variable 0 has no elements, and such in others."""

    def __init__(self, seed):
        self.chance = random.Random(seed)

    def none(self):
        return self.chance.choice(((0, 0), (0, 0), (2, (0, 0), (1,)), (3, (0, 0), (0, 0)), (4, (1,), (0, 0))))

    def small(self):
        return self.chance.choice(((1,), (0, 1), (0, 2), (4, (0, 1), (1,)), (3, (0, 2), (1,))))

    def weightless(self, around, depth):
        """A term of weight 0; around: the variables' types, the nearest first."""
        ways = (self.from_none, self.paired, self.side, self.chosen, self.constant, self.let, self.let, self.by_cases)
        way = self.from_none if depth <= 1 else self.chance.choice(ways)
        return way(around, depth)

    def from_none(self, around, depth):
        none = self.none()
        inner = [none] + around
        number = self.chance.randrange(len(inner))
        body, kind = self.chance.choice((((9, None, []), (1,)), ((0, number, []), inner[number])))
        return (7, none, [body]), (4, none, kind)

    def paired(self, around, depth):
        (one, kind), (other, other_kind) = [self.weightless(around, depth - 1) for turn in range(2)]
        return (1, None, [one, other]), (2, kind, other_kind)

    def side(self, around, depth):
        term, kind = self.paired(around, depth)
        head = self.chance.choice((2, 3))
        return (head, None, [term]), kind[head - 1]

    def chosen(self, around, depth):
        (one, kind), (other, other_kind) = [self.weightless(around, depth - 1) for turn in range(2)]
        return self.chance.choice(self.both_ways(one, kind, other, other_kind)), (3, kind, other_kind)

    def both_ways(self, one, kind, other, other_kind):
        return (4, other_kind, [one]), (5, kind, [other])

    def constant(self, around, depth):
        taken = self.small()
        term, kind = self.weightless([taken] + around, depth - 1)
        return (7, taken, [term]), (4, taken, kind)

    def let(self, around, depth):
        argument, taken = self.any(around, depth - 1)
        term, kind = self.weightless([taken] + around, depth - 1)
        return (8, None, [(7, taken, [term]), argument]), kind

    def by_cases(self, around, depth):
        term, (head, on_left, on_right) = self.chosen(around, depth - 1)
        (one, kind), (other, other_kind) = [self.weightless(around, depth - 2) for turn in range(2)]
        ways = list(self.both_ways(one, kind, other, other_kind))
        self.chance.shuffle(ways)
        own = [(7, taken, [shifted(way, 0)]) for taken, way in zip((on_left, on_right), ways)]
        return (6, None, [term] + own), (3, kind, other_kind)

    def any(self, around, depth):
        """A term that may weigh something."""
        ways = [self.yes_or_no, self.weightless]
        ways += [self.variable] if around else []
        ways += [self.asked, self.beside, self.function, self.function] if depth > 1 else []
        return self.chance.choice(ways)(around, depth)

    def yes_or_no(self, around, depth):
        return (self.chance.choice((9, 10)), None, []), (1,)

    def variable(self, around, depth):
        number = self.chance.randrange(len(around))
        return (0, number, []), around[number]

    def asked(self, around, depth):
        twos = [number for number, kind in enumerate(around) if kind == (1,)]
        asked = (0, self.chance.choice(twos), []) if twos else self.yes_or_no(around, depth)[0]
        (one, kind), (other, other_kind) = [self.any(around, depth - 1) for turn in range(2)]
        return (11, None, [asked] + list(self.both_ways(one, kind, other, other_kind))), (3, kind, other_kind)

    def beside(self, around, depth):
        sides = [self.any(around, depth - 1), self.weightless(around, depth - 1)]
        self.chance.shuffle(sides)
        return (1, None, [sides[0][0], sides[1][0]]), (2, sides[0][1], sides[1][1])

    def function(self, around, depth):
        taken = self.small()
        term, kind = self.any([taken] + around, depth - 1)
        return (7, taken, [term]), (4, taken, kind)

    def sizes(self):
        none_on = self.chance.randrange(2)
        found = [[self.chance.choice((0, 1, 2))] + [self.chance.choice((1, 2, 2, 3)) for i in range(2)]
                 for side in (0, 1)]
        found[none_on][0] = 0
        return found


class AgainstTheSlowHouse(unittest.TestCase):
    def each(self, seeds, made):
        """Compares the answers on both sides; gives back how often each number was answered."""
        numbers = {}
        for seed in range(seeds):
            maker = WeightlessMaker(seed)
            term, kind = made(maker)
            sizes = maker.sizes()
            row = term_row(term)
            if len(row) > 100 or deepest_told(term) > 6:
                continue
            found = tell(*start_of(sizes, []), meaning(0, row), meaning(1, row))[-2:]
            for side in (0, 1):
                due = answer_of(SlowHouse(sizes, []).meaning, side, term)
                self.assertEqual(found[side], due, (row, sizes, side))
                if due[0] >= 0:
                    self.assertEqual(due[1:], type_row(kind))
                numbers[due[0]] = numbers.get(due[0], 0) + 1
        return numbers

    def test_terms_of_weight_0(self):
        numbers = self.each(1500, lambda maker: maker.weightless([], maker.chance.choice((3, 4, 5))))
        self.assertGreater(sum(many for number, many in numbers.items() if number > 0), 100, numbers)

    def test_next_to_what_weighs_something(self):
        numbers = self.each(2500, lambda maker: maker.function([], maker.chance.choice((4, 5, 6))))
        self.assertGreater(sum(many for number, many in numbers.items() if number > 0), 300, numbers)


if __name__ == "__main__":
    unittest.main()
