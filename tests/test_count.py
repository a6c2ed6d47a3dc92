import unittest

from tests.calls import TWO, ask, begin, count, either, function, last, pair, probe, relate, sets, size, tell, var

FOUR = pair(TWO, TWO)
EIGHT = pair(TWO, FOUR)
OF_32 = pair(FOUR, EIGHT)


class HowManyAndTheFirst(unittest.TestCase):
    def counts(self, row, answer, *before):
        self.assertEqual(last(*before, count(row)), answer)

    def test_two(self):
        self.counts(TWO, [2, 0, 0])

    def test_variable(self):
        self.counts(var(0), [1, 0, 0], relate(0, 0, 0))
        self.counts(var(0), [1, 2, 1], sets(0, 3, 2), relate(0, 2, 1))
        self.counts(var(0), [6, 0, 0], sets(0, 3, 2), *[relate(0, x, y) for x in range(3) for y in range(2)])

    def test_the_least_on_the_left_then_the_least_on_the_right(self):
        self.counts(var(0), [3, 1, 1], sets(0, 3, 3), relate(0, 2, 0), relate(0, 1, 2), relate(0, 1, 1))
        self.counts(var(0), [2, 0, 2], sets(0, 3, 3), relate(0, 2, 0), relate(0, 0, 2))
        self.counts(var(0), [2, 1, 0], sets(0, 2, 3), relate(0, 1, 2), relate(0, 1, 0))

    def test_pair_and_either(self):
        before = (sets(0, 2, 3), relate(0, 1, 2), relate(0, 1, 0))
        self.counts(pair(var(0), var(0)), [4, 3, 0], *before)
        self.counts(pair(TWO, var(0)), [4, 1, 0], *before)
        self.counts(pair(var(0), TWO), [4, 2, 0], *before)
        self.counts(either(var(0), TWO), [4, 1, 0], *before)
        self.counts(either(TWO, var(0)), [4, 0, 0], *before)

    def test_function(self):
        self.counts(function(TWO, TWO), [4, 0, 0])
        before = (sets(0, 2, 3), relate(0, 1, 2), relate(0, 1, 0))
        # Functions from two: 1 always on the left, 0 or 2 for each on the right.
        self.counts(function(TWO, var(0)), [4, 3, 0], *before)
        # Functions to two: what the left has for 1, the right has for 0 and for 2; for 1 and for 0 there's a choice.
        self.counts(function(var(0), TWO), [8, 0, 0], *before)

    def test_functions_to_the_variable_they_are_from(self):
        # On the left 1 for 1, on the right 0 for 0 (and for 1 whatever): 2 and 3, with 0 and 2.
        self.counts(function(var(0), var(0)), [4, 2, 0], sets(0, 2, 2), relate(0, 1, 0))
        # Related is all: all functions.
        self.counts(function(var(0), var(0)), [16, 0, 0], sets(0, 2, 2),
                    *[relate(0, x, y) for x in (0, 1) for y in (0, 1)])

    def test_functions_of_functions(self):
        self.counts(function(function(TWO, TWO), TWO), [16, 0, 0])
        self.counts(function(TWO, function(TWO, TWO)), [16, 0, 0])

    def test_no_pair_at_all(self):
        self.counts(var(0), [0])
        self.counts(var(0), [0], sets(0, 3, 3))
        self.counts(var(0), [0], sets(0, 0, 3))
        self.counts(var(0), [0], sets(0, 3, 0))
        self.counts(pair(TWO, var(0)), [0], sets(0, 3, 2))
        self.counts(function(TWO, var(0)), [0], sets(0, 2, 2))

    def test_sets_of_none(self):
        self.counts(function(var(0), TWO), [1, 0, 0], sets(0, 0, 0))
        self.counts(function(var(0), TWO), [8, 0, 0], sets(0, 0, 3))
        self.counts(function(var(0), TWO), [8, 0, 0], sets(0, 3, 0))
        self.counts(either(var(0), TWO), [2, 0, 3], sets(0, 0, 3))
        self.counts(either(var(0), TWO), [2, 3, 0], sets(0, 3, 0))

    def test_each_related_to_itself_alone(self):
        before = (begin(2), sets(0, 2, 2), sets(1, 3, 3), *[relate(i, x, x) for i in (0, 1) for x in range(2 + i)])
        for row, many in ((var(1), 3), (pair(var(0), var(1)), 6), (either(var(1), var(0)), 5),
                          (function(var(0), var(1)), 9), (function(var(1), var(0)), 8),
                          (function(function(var(0), var(0)), var(0)), 16),
                          (function(either(var(0), var(0)), var(0)), 16), (function(var(1), var(1)), 27)):
            self.counts(row, [many, 0, 0], *before)


class Refusals(unittest.TestCase):
    def test_row(self):
        for row in ([], [2, 1], [1, 1], [5], var(1), pair(TWO, var(1)), [4] * 100, [2] * 6 + [1] * 7):
            with self.subTest(row=row):
                self.assertEqual(ask(count(row)), [-1])

    def test_32_and_33(self):
        self.assertEqual(tell(count(OF_32), count(either(OF_32, var(0))), sets(0, 0, 0), count(either(OF_32, var(0)))),
                         [[32, 0, 0], [-8], [0], [32, 0, 0]])
        self.assertEqual(tell(size(0, function(TWO, EIGHT)), count(function(TWO, EIGHT))), [[64], [-8]])

    def test_on_either_side(self):
        of_30 = pair(pair(var(2), TWO), either(var(2), TWO))
        row = either(of_30, var(1))
        for sizes, refused in (((2, 2), False), ((3, 2), True), ((2, 3), True), ((3, 3), True)):
            found = last(begin(3), sets(2, 3, 3), sets(1, *sizes), count(row))
            self.assertEqual(found == [-8], refused, sizes)

    def test_small_with_a_large_one_in_it(self):
        row = function(either(OF_32, var(1)), var(0))
        for n, m in ((0, 0), (1, 0), (0, 1)):
            found = last(begin(2), sets(1, n, m), relate(0, 0, 0), count(row))
            self.assertEqual(found, [-8] if n + m else [1, 0, 0])

    def test_weight_of_up_to_4096(self):
        # 64 * 64 is 4096, by 8 and 8, 2 and 32, or 4 and 4 and 4; 65 * 65 is 4225, by 5 and 13.
        before = (begin(2), relate(0, 0, 0))
        for types in ((EIGHT, EIGHT), (TWO, OF_32), (FOUR, FOUR, FOUR)):
            row = var(0)
            for one in types:
                row = function(one, row)
            self.assertEqual(last(*before, count(row)), [1, 0, 0])
            self.assertEqual(last(*before, count(function(TWO, row))), [-8])
        five = either(FOUR, var(1))
        row = function(five, function(either(EIGHT, five), var(0)))
        self.assertEqual(tell(*before, size(0, five), size(0, either(EIGHT, five)), count(row))[2:],
                         [[5], [13], [-8]])

    def test_weight_of_unlike_sides(self):
        # 32 by 4, with a weight of 5 by 2; with sets of 3 on both sides that's 32 by 32 and 5 by 5.
        row = function(function(either(var(1), TWO), TWO), var(0))
        found = tell(begin(2), relate(0, 0, 0), sets(1, 3, 0), count(row), sets(1, 0, 3), count(row),
                     sets(1, 3, 3), count(row))
        self.assertEqual(found[3:], [[1, 0, 0], [0], [1, 0, 0], [0], [-8]])

    def test_weight_with_a_set_of_none(self):
        heavy = function(OF_32, function(FOUR, var(0)))
        found = tell(begin(2), count(heavy), count(function(var(1), heavy)), sets(1, 0, 1),
                     count(function(var(1), heavy)))
        self.assertEqual(found[1:], [[-8], [-8], [0], [1, 0, 0]])

    def test_row_before_too_large(self):
        large = either(OF_32, OF_32)
        self.assertEqual(ask(count(large), count(large + [1]), count(pair(large, var(1)))), [-8, -1, -1])

    def test_changes_nothing(self):
        start = (begin(2), sets(0, 2, 3), relate(0, 0, 0), relate(1, 0, 0))
        for asked in (count(var(0)), count([]), count(either(OF_32, TWO)), count(function(var(0), var(1)))):
            found = tell(*start, asked, asked, *probe(2))
            self.assertEqual(found[6:], [[2], [3], [0], [1], [1], [0]])
            self.assertEqual(found[4], found[5])


if __name__ == "__main__":
    unittest.main()
