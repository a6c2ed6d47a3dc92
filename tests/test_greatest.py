"""Lists of calls at their greatest weights, and those that weigh nothing but must not be gone through naively."""

import unittest

from freecharge.house import answers
from tests.calls import (NO, TWO, YES, ask_if, begin, count, either, function, joined, kept, meaning, pair, put,
                         relate, related, sets, size, split, taking, tell, use, var)

FOUR = pair(TWO, TWO)
EIGHT = pair(TWO, FOUR)
OF_32 = pair(FOUR, EIGHT)
OF_256 = function(FOUR, FOUR)
THREE_TO_TWO = function(var(0), TWO)


def eights(layers, body):
    """Functions that take one of 8, within one another, each but the outermost put to the next one's argument."""
    row = taking(THREE_TO_TWO, body)
    for layer in range(layers - 1):
        row = taking(THREE_TO_TWO, put(row, use(0)))
    return row


def ifs(many):
    """A term of so many ifs, of which each asks, gives and passes over a third of the others; it's yes."""
    if many == 0:
        return YES
    some = (many - 1) // 3
    return ask_if(ifs(some), ifs(some), ifs(many - 1 - 2 * some))


class Meanings(unittest.TestCase):
    def test_60_of_65536(self):
        # Within all functions stands a function of two that's put to no; it gives what it isn't.
        body = put(taking(TWO, ask_if(use(0), ask_if(use(0), NO, YES), ask_if(use(0), NO, YES))), NO)
        row = eights(5, body)
        kind = function(THREE_TO_TWO, TWO)
        found = tell(sets(0, 3, 3), *[meaning(turn % 2, row) for turn in range(59)])
        self.assertEqual(found[1:], [[255] + kind] * 59)
        self.assertEqual(tell(sets(0, 3, 3), meaning(0, eights(6, body)))[1:], [[-8]])

    def test_variables_of_all_functions(self):
        # Each argument is the outermost one's, so the innermost function gives that back.
        row = eights(5, taking(var(0), put(use(5), use(0))))
        found = tell(sets(0, 3, 2), meaning(1, row), meaning(0, row))
        # On the right the four functions from 2 to two; on the left there are 8 of them, and too many to these.
        kind = function(THREE_TO_TWO, THREE_TO_TWO)
        self.assertEqual(found[1:], [[0 + 1 * 4 + 2 * 16 + 3 * 64] + kind, [-8]])

    def test_60_of_two_of_256(self):
        row = taking(var(1), taking(OF_256, taking(OF_256, use(2))))
        kind = function(var(1), function(OF_256, function(OF_256, var(1))))
        found = tell(begin(2), *[meaning(0, row)] * 59)
        self.assertEqual(found[1:], [[0] + kind] * 59)

    def test_60_that_weigh_nothing(self):
        row, kind = taking(var(1), YES), function(var(1), TWO)
        for layer in range(10):
            row, kind = taking(OF_256, row), function(OF_256, kind)
        found = tell(begin(2), sets(1, 0, 0), *[meaning(0, row)] * 58)
        self.assertEqual(found[2:], [[0] + kind] * 58)

    def test_100_numbers(self):
        row = ifs(33)
        self.assertEqual(len(row), 100)
        self.assertEqual(tell(*[meaning(0, row)] * 60), [[1, 1]] * 60)


class Relations(unittest.TestCase):
    def test_60_of_the_greatest(self):
        # 8 on the left and 216 on the right are taken, by 256 functions on the left and 1 on the right.
        taken = pair(pair(pair(TWO, TWO), TWO), pair(pair(var(0), var(0)), var(0)))
        one = function(taken, var(2))
        row = function(one, var(1))
        self.assertLessEqual(8 * 216 * 256, 1000000)
        before = [begin(3), sets(0, 1, 3), sets(2, 2, 1), relate(0, 0, 0), relate(0, 0, 1), relate(0, 0, 2),
                  relate(2, 0, 0), relate(1, 0, 0)]
        found = tell(*before, size(0, one), size(1, one), *[related(0, 0, row), related(255, 0, one)] * 25)
        # What is 1 always isn't related, since 1 isn't; but what takes them gives what is related to all.
        self.assertEqual(found[8:], [[256], [1]] + [[1], [0]] * 25)

    def test_60_of_256_pairs(self):
        large = pair(pair(FOUR, FOUR), pair(FOUR, FOUR))
        row = function(large, var(0))
        found = tell(relate(0, 0, 0), *[related(0, 0, row), related(0, 0, function(row, var(0)))] * 29)
        self.assertEqual(found[1:], [[1], [1]] * 29)

    def test_60_of_a_thousand_by_a_thousand(self):
        five = either(var(1), TWO)
        row = var(0)
        for one in (five, five, five, EIGHT):
            row = function(one, row)
        found = tell(begin(2), sets(1, 3, 3), relate(0, 0, 0), *[related(0, 0, row)] * 57)
        self.assertEqual(found[3:], [[1]] * 57)

    def test_60_of_functions_of_8(self):
        taken = function(THREE_TO_TWO, TWO)
        found = tell(sets(0, 3, 3), relate(0, 0, 0), relate(0, 1, 1), relate(0, 2, 2),
                     *[related(turn, turn + turn % 2, taken) for turn in range(56)])
        self.assertEqual(found[4:], [[1], [0]] * 28)

    def test_60_counts(self):
        row = function(OF_32, function(TWO, var(0)))
        other = function(either(FOUR, var(0)), TWO)
        found = tell(relate(0, 0, 0), *[count(row), count(other)] * 29)
        self.assertEqual(found[1:], [[1, 0, 0], [32, 0, 0]] * 29)


class Keeping(unittest.TestCase):
    def test_8_times_all_256_relations(self):
        pairs = function(pair(var(0), var(0)), var(0))
        row = function(pairs, function(var(0), var(1)))
        found = tell(begin(2), sets(0, 2, 3), sets(1, 2, 3), *[kept(row), kept(pairs)] * 4)
        self.assertEqual(found[3:], [[-8], [2, 10, 12]] * 4)

    def test_8_of_32(self):
        row = either(function(pair(var(0), var(1)), var(1)), function(var(0), pair(var(0), var(1))))
        found = tell(begin(2), sets(0, 2, 3), sets(1, 2, 3), *[kept(row)] * 8)
        self.assertEqual(found[3:], [[1, 10]] * 8)

    def test_8_at_the_greatest_weight(self):
        eight = pair(var(0), pair(var(0), var(0)))
        row = function(eight, function(eight, function(var(1), var(2))))
        found = tell(begin(3), sets(0, 2, 3), sets(1, 0, 1), sets(2, 2, 2), *[kept(row)] * 8)
        self.assertEqual(found[4:], [[1, 0]] * 8)


class OneList(unittest.TestCase):
    def test_all_of_the_greatest_together(self):
        heavy_term = eights(5, put(taking(TWO, use(0)), YES))
        heavy_type = function(pair(pair(FOUR, FOUR), pair(FOUR, FOUR)), var(1))
        counted = function(OF_32, function(TWO, var(1)))
        keeping = function(pair(var(0), var(0)), var(0))
        calls = [begin(2), sets(0, 3, 3), relate(1, 0, 0)]
        calls += [meaning(0, heavy_term), related(0, 0, heavy_type), count(counted)] * 14
        calls += [sets(0, 2, 3)] + [kept(keeping)] * 8 + [size(0, OF_256)] * 6
        self.assertEqual(len(calls), 60)
        found = split(answers(joined(calls)))
        self.assertEqual(found[3:45], [[255] + function(THREE_TO_TWO, TWO), [1], [1, 0, 0]] * 14)
        self.assertEqual(found[45:], [[0]] + [[2, 10, 12]] * 8 + [[256]] * 6)


if __name__ == "__main__":
    unittest.main()
