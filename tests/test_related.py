import unittest

from tests.calls import (BIGGEST, TWO, ask, begin, either, function, pair, probe, relate, related, sets, size, tell,
                         var)

FOUR = pair(TWO, TWO)
OF_256 = function(FOUR, FOUR)
OF_257 = either(OF_256, var(0))


def table(row, lefts, rights, *before):
    """All pairs of a type that are related."""
    pairs = [(x, y) for x in range(lefts) for y in range(rights)]
    asked = [ask(*before, *[related(x, y, row) for x, y in pairs[place:place + 40]])[len(before):]
             for place in range(0, len(pairs), 40)]
    found = [answer for some in asked for answer in some]
    if any(answer not in (0, 1) for answer in found):
        raise AssertionError(f"refused: {found}")
    return [one for one, answer in zip(pairs, found) if answer == 1]


class EachKind(unittest.TestCase):
    def test_two(self):
        self.assertEqual(table(TWO, 2, 2), [(0, 0), (1, 1)])

    def test_variable(self):
        before = (begin(2), sets(0, 2, 3), sets(1, 3, 2), relate(0, 1, 2), relate(0, 0, 2), relate(1, 2, 1))
        self.assertEqual(table(var(0), 2, 3, *before), [(0, 2), (1, 2)])
        self.assertEqual(table(var(1), 3, 2, *before), [(2, 1)])

    def test_nothing_is_related_at_the_beginning(self):
        self.assertEqual(table(var(0), 1, 1), [])
        self.assertEqual(table(var(0), 1, 1, relate(0, 0, 0)), [(0, 0)])
        self.assertEqual(table(var(0), 1, 1, relate(0, 0, 0), begin(1)), [])

    def test_pair(self):
        before = (sets(0, 2, 3), relate(0, 0, 1), relate(0, 1, 1), relate(0, 1, 2))
        told = [(0, 1), (1, 1), (1, 2)]
        self.assertEqual(table(pair(var(0), TWO), 4, 6, *before),
                         sorted((2 * x + b, 2 * y + b) for x, y in told for b in (0, 1)))
        self.assertEqual(table(pair(TWO, var(0)), 4, 6, *before),
                         sorted((2 * b + x, 3 * b + y) for x, y in told for b in (0, 1)))
        self.assertEqual(table(pair(var(0), var(0)), 4, 9, *before),
                         sorted((2 * x + u, 3 * y + v) for x, y in told for u, v in told))

    def test_either(self):
        before = (sets(0, 2, 3), relate(0, 0, 1), relate(0, 1, 2))
        self.assertEqual(table(either(var(0), TWO), 4, 5, *before), [(0, 1), (1, 2), (2, 3), (3, 4)])
        self.assertEqual(table(either(TWO, var(0)), 4, 5, *before), [(0, 0), (1, 1), (2, 3), (3, 4)])
        self.assertEqual(table(either(var(0), var(0)), 4, 6, *before), [(0, 1), (1, 2), (2, 4), (3, 5)])

    def test_function_of_two(self):
        self.assertEqual(table(function(TWO, TWO), 4, 4), [(n, n) for n in range(4)])

    def test_function_to_a_variable(self):
        before = (sets(0, 2, 3), relate(0, 0, 1), relate(0, 1, 0), relate(0, 1, 2))
        told = [(0, 1), (1, 0), (1, 2)]
        self.assertEqual(table(function(TWO, var(0)), 4, 9, *before),
                         sorted((x + 2 * u, y + 3 * v) for x, y in told for u, v in told))

    def test_function_from_a_variable(self):
        # 0 on the left is related to 1 on the right, nothing else: what they have for these is the same.
        before = (sets(0, 2, 2), relate(0, 0, 1))
        self.assertEqual(table(function(var(0), TWO), 4, 4, *before),
                         [(f, g) for f in range(4) for g in range(4) if f % 2 == g // 2])

    def test_function_from_a_variable_to_itself(self):
        before = (sets(0, 2, 2), relate(0, 0, 1), relate(0, 1, 1))
        told = [(0, 1), (1, 1)]
        expected = [(f, g) for f in range(4) for g in range(4)
                    if all(((f // 2 ** x) % 2, (g // 2 ** y) % 2) in told for x, y in told)]
        self.assertEqual(table(function(var(0), var(0)), 4, 4, *before), expected)
        # The right function has 1 for 1, and what it has for 0 doesn't matter.
        self.assertEqual(sorted({g for f, g in expected}), [2, 3])

    def test_functions_when_nothing_is_related(self):
        everything = [(f, g) for f in range(4) for g in range(8)]
        self.assertEqual(table(function(var(0), TWO), 4, 8, sets(0, 2, 3)), everything)
        self.assertEqual(table(function(TWO, var(0)), 4, 9, sets(0, 2, 3)), [])

    def test_functions_of_functions(self):
        # Functions from two to two are each related to itself alone, so those that take them are, too.
        row = function(function(TWO, TWO), TWO)
        self.assertEqual(table(row, 16, 16), [(n, n) for n in range(16)])

    def test_functions_that_take_functions_of_variables(self):
        # With all related, all functions are, and so what they have for whatever is given is the same.
        before = (sets(0, 1, 2), relate(0, 0, 0), relate(0, 0, 1))
        row = function(function(var(0), var(0)), TWO)
        self.assertEqual(table(row, 2, 16, *before), [(0, 0), (1, 15)])
        # With 0 and 0 alone, those that have 0 for 0 on the right are related: the functions 0 and 2.
        before = (sets(0, 1, 2), relate(0, 0, 0))
        self.assertEqual(table(row, 2, 16, *before),
                         [(f, g) for f in (0, 1) for g in range(16) if g % 2 == f and g // 4 % 2 == f])

    def test_two_variables(self):
        before = (begin(2), sets(0, 2, 1), sets(1, 1, 2), relate(0, 1, 0), relate(1, 0, 1))
        # The left has 0 always, the right must have 1 for 0.
        self.assertEqual(table(function(var(0), var(1)), 1, 2, *before), [(0, 1)])
        # On the left 1 for 0 on the right.
        self.assertEqual(table(function(var(1), var(0)), 2, 1, *before), [(1, 0)])

    def test_left_and_right_are_not_mixed_up(self):
        before = (sets(0, 3, 3), relate(0, 0, 2))
        self.assertEqual(table(var(0), 3, 3, *before), [(0, 2)])
        self.assertEqual(table(pair(TWO, var(0)), 6, 6, *before), [(0, 2), (3, 5)])


class SetsOfNone(unittest.TestCase):
    def test_functions_from_none(self):
        self.assertEqual(table(function(var(0), TWO), 1, 1, sets(0, 0, 0)), [(0, 0)])
        self.assertEqual(table(function(var(0), TWO), 1, 8, sets(0, 0, 3)), [(0, y) for y in range(8)])
        self.assertEqual(table(function(var(0), TWO), 8, 1, sets(0, 3, 0)), [(x, 0) for x in range(8)])
        self.assertEqual(table(function(var(0), var(0)), 1, 1, sets(0, 0, 0)), [(0, 0)])

    def test_functions_to_none(self):
        self.assertEqual(ask(sets(0, 0, 2), related(0, 0, function(TWO, var(0)))), [0, -1])
        self.assertEqual(ask(sets(0, 2, 0), related(0, 0, function(TWO, var(0)))), [0, -1])

    def test_functions_that_take_functions_to_none(self):
        row = function(function(TWO, var(0)), TWO)
        self.assertEqual(table(row, 1, 1, sets(0, 0, 0)), [(0, 0)])
        self.assertEqual(table(row, 1, 16, sets(0, 0, 2)), [(0, y) for y in range(16)])

    def test_functions_that_take_functions_from_none(self):
        row = function(function(var(0), TWO), TWO)
        self.assertEqual(table(row, 2, 2, sets(0, 0, 0)), [(0, 0), (1, 1)])
        self.assertEqual(table(row, 2, 4, sets(0, 0, 1)), [(0, 0), (1, 3)])

    def test_either_and_pair(self):
        self.assertEqual(table(either(var(0), TWO), 2, 4, sets(0, 0, 2)), [(0, 2), (1, 3)])
        self.assertEqual(table(either(TWO, var(0)), 4, 2, sets(0, 2, 0)), [(0, 0), (1, 1)])
        self.assertEqual(ask(sets(0, 0, 2), related(0, 0, pair(TWO, var(0)))), [0, -1])


class Refusals(unittest.TestCase):
    def test_row(self):
        for row in ([], [2, 1], [1, 1], [5], var(1), pair(TWO, var(1)), [4] * 100, [2] * 6 + [1] * 7):
            with self.subTest(row=row):
                self.assertEqual(ask(related(0, 0, row), related(0, 0, TWO)), [-1, 1])

    def test_too_large_on_a_side(self):
        self.assertEqual(ask(related(0, 0, OF_256), related(0, 0, OF_257)), [1, -8])
        row = function(either(var(0), var(0)), var(0))
        self.assertEqual(ask(sets(0, 3, 2), size(0, row), size(1, row), related(0, 0, row)), [0, -8, 16, -8])
        self.assertEqual(ask(sets(0, 2, 3), size(0, row), size(1, row), related(0, 0, row)), [0, 16, -8, -8])
        self.assertEqual(ask(sets(0, 2, 2), related(0, 0, row)), [0, 1])

    def test_small_with_a_large_one_in_it(self):
        for n, m in ((0, 0), (0, 1), (1, 0)):
            row = function(either(pair(pair(FOUR, FOUR), pair(FOUR, FOUR)), var(1)), var(0))
            found = ask(begin(2), sets(1, n, m), related(0, 0, row))
            self.assertEqual(found, [0, 0, -8 if n + m else 0])

    def of_weight(self, types):
        """What is answered for functions that take these types, one behind another, to type variable 0."""
        row = var(0)
        for one in types:
            row = function(one, row)
        before = (begin(3), sets(1, 3, 3), sets(2, 0, 3), relate(0, 0, 0))
        return ask(*before, related(0, 0, row))[-1]

    def test_weight_of_up_to_1000000(self):
        # The weight is the product of the squares: 1000 * 1000, then 7 * 11 * 13 = 1001 and its square.
        five, eight = either(var(1), TWO), pair(TWO, FOUR)
        seven, eleven, thirteen = either(five, TWO), either(var(1), eight), either(five, eight)
        before = (begin(3), sets(1, 3, 3))
        self.assertEqual(ask(*before, *[size(1, one) for one in (five, eight, seven, eleven, thirteen)])[2:],
                         [5, 8, 7, 11, 13])
        self.assertEqual(self.of_weight([five, five, five, eight]), 1)
        self.assertEqual(self.of_weight([seven, eleven, thirteen]), -8)

    def test_weight_of_the_greatest(self):
        # Of 256 by 256 pairs each has a weight of 16 itself, or none.
        self.assertEqual(self.of_weight([OF_256]), -8)
        self.assertEqual(self.of_weight([pair(pair(FOUR, FOUR), pair(FOUR, FOUR))]), 1)

    def test_weight_of_what_is_taken_and_of_what_is_given(self):
        of_18 = pair(var(1), pair(var(1), TWO))
        of_54, of_60 = pair(of_18, var(1)), pair(pair(var(1), TWO), pair(TWO, either(var(1), TWO)))
        light = function(of_18, var(0))
        before = (begin(2), sets(1, 3, 3), relate(0, 0, 0))
        # The weight of light is 18 * 18, so that's 54 * 54 * 324 = 944784, and 60 * 60 * 324 = 1166400.
        for given in (light, function(light, var(0)), function(var(0), light), pair(var(0), light)):
            found = ask(*before, related(0, 0, function(of_54, given)), related(0, 0, function(of_60, given)))
            self.assertEqual(found[3:], [1, -8], given)
        for taken, answer in ((pair(light, of_54), 1), (pair(light, of_60), -8), (pair(of_60, light), -8)):
            found = ask(*before, related(0, 0, function(taken, var(0))))
            self.assertEqual(found[3:], [answer], taken)

    def test_side_by_side_the_greatest(self):
        light = function(function(var(1), FOUR), var(0))
        before = (begin(2), sets(1, 3, 3), relate(0, 0, 0))
        for made in (pair, either):
            row = function(FOUR, made(light, light))
            self.assertEqual(ask(*before, related(0, 0, row))[3:], [1])
            row = made(light, made(light, light))
            self.assertEqual(ask(*before, related(0, 0, row))[3:], [1])

    def test_weight_of_unlike_sides(self):
        # 256 on the left, 4 on the right, with a weight of 8 by 2 each.
        one = function(either(var(1), either(var(1), TWO)), TWO)
        row = function(one, var(0))
        for sizes, answer in (((3, 0), 1), ((0, 3), 1), ((3, 3), -8)):
            found = ask(begin(2), sets(1, *sizes), relate(0, 0, 0), related(0, 0, row))
            self.assertEqual(found[3:], [answer], sizes)

    def test_weight_with_a_set_of_none(self):
        of_64 = function(var(1), FOUR)
        self.assertEqual(self.of_weight([of_64, of_64]), -8)
        self.assertEqual(self.of_weight([of_64, of_64, var(2)]), 1)
        self.assertEqual(self.of_weight([of_64, of_64, function(TWO, var(2))]), 1)
        # What is taken weighs as before, though what is given weighs nothing.
        self.assertEqual(self.of_weight([var(2), of_64, of_64]), -8)
        self.assertEqual(self.of_weight([var(2), of_64]), 1)

    def test_no_such_element(self):
        before = (sets(0, 2, 3),)
        for row, lefts, rights in ((var(0), 2, 3), (TWO, 2, 2), (pair(var(0), TWO), 4, 6), (either(TWO, var(0)), 4, 5),
                                   (function(TWO, var(0)), 4, 9), (function(var(0), TWO), 4, 8)):
            with self.subTest(row=row):
                self.assertIn(ask(*before, related(lefts - 1, rights - 1, row))[-1], (0, 1))
                self.assertEqual(ask(*before, related(lefts, 0, row), related(0, rights, row),
                                     related(BIGGEST, 0, row), related(0, BIGGEST, row),
                                     related(lefts, rights, row))[1:], [-1] * 5)

    def test_no_such_element_in_a_set_of_none(self):
        self.assertEqual(ask(sets(0, 0, 1), related(0, 0, var(0))), [0, -1])
        self.assertEqual(ask(sets(0, 1, 0), related(0, 0, var(0))), [0, -1])

    def test_too_large_before_no_such_element(self):
        heavy = function(OF_256, var(0))
        for row in (OF_257, heavy):
            self.assertEqual(ask(related(BIGGEST, BIGGEST, row), related(0, BIGGEST, row), related(BIGGEST, 0, row)),
                             [-8] * 3)

    def test_row_before_too_large(self):
        self.assertEqual(ask(related(0, 0, OF_257 + [1]), related(0, 0, pair(OF_257, var(1)))), [-1, -1])

    def test_changes_nothing(self):
        start = (begin(2), sets(0, 2, 3), relate(0, 0, 0), relate(1, 0, 0))
        for asked in (related(0, 0, var(0)), related(0, 0, []), related(0, 0, OF_257), related(9, 9, var(0)),
                      related(0, 0, function(var(0), var(1)))):
            found = tell(*start, asked, asked, *probe(2))
            self.assertEqual(found[6:], [[2], [3], [0], [1], [1], [0]])
            self.assertEqual(found[4], found[5])


if __name__ == "__main__":
    unittest.main()
