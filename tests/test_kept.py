import unittest

from tests.calls import (TWO, begin, count, either, function, kept, last, pair, probe, relate, related, sets, size,
                         tell, var)

FOUR = pair(TWO, TWO)
EIGHT = pair(TWO, FOUR)
OF_32 = pair(FOUR, EIGHT)
SAME = function(var(0), var(0))


def start(*lefts):
    return (begin(len(lefts)), *[sets(i, n, 0) for i, n in enumerate(lefts)])


class Kept(unittest.TestCase):
    def keeps(self, row, numbers, *lefts):
        self.assertEqual(last(*start(*lefts), kept(row)), [len(numbers)] + numbers)


class WithoutVariables(Kept):
    def test_all_are_kept(self):
        for row, many in ((TWO, 2), (FOUR, 4), (either(TWO, FOUR), 6), (function(TWO, TWO), 4),
                          (function(function(TWO, TWO), TWO), 16), (OF_32, 32)):
            self.keeps(row, list(range(many)), 1)
            self.keeps(row, list(range(many)), 2, 2, 0)


class OneVariable(Kept):
    def test_the_variable_itself(self):
        for n in (0, 1, 2):
            self.keeps(var(0), [], n)
            self.keeps(pair(TWO, var(0)), [], n)
            self.keeps(function(TWO, var(0)), [], n)

    def test_either(self):
        self.keeps(either(TWO, var(0)), [0, 1], 2)
        self.keeps(either(var(0), TWO), [2, 3], 2)
        self.keeps(either(var(0), TWO), [0, 1], 0)

    def test_to_itself(self):
        self.keeps(SAME, [2], 2)
        self.keeps(SAME, [0], 1)
        self.keeps(SAME, [0], 0)

    def test_to_two(self):
        self.keeps(function(var(0), TWO), [0, 3], 2)
        self.keeps(function(var(0), TWO), [0, 1], 1)
        self.keeps(function(var(0), TWO), [0], 0)

    def test_one_of_two(self):
        # The first or the second of what is taken.
        self.keeps(function(pair(var(0), var(0)), var(0)), [2 + 8, 4 + 8], 2)
        self.keeps(function(var(0), SAME), [2 + 2 * 4, 0 + 3 * 4], 2)
        self.keeps(function(var(0), function(TWO, var(0))), [0 + 3 * 4], 2)

    def test_to_pairs_and_either(self):
        self.keeps(function(var(0), pair(var(0), var(0))), [0 + 3 * 4], 2)
        self.keeps(function(var(0), either(var(0), var(0))), [0 + 1 * 4, 2 + 3 * 4], 2)

    def test_from_either(self):
        # Two variables' elements each go to themselves.
        self.keeps(function(either(var(0), var(0)), var(0)), [0 + 2 + 0 + 8], 2)
        self.keeps(function(either(var(0), TWO), TWO), [b * 3 + 4 * c for c in range(4) for b in (0, 1)], 2)

    def test_from_functions(self):
        self.keeps(function(SAME, TWO), list(range(2)), 1)
        # If all are related, all functions are, too: it must have the same for each of them.
        self.keeps(function(SAME, TWO), [0, 15], 2)
        self.keeps(function(SAME, var(0)), [], 2)
        self.keeps(function(SAME, var(0)), [], 1)

    def test_none_on_the_left(self):
        self.keeps(function(function(TWO, var(0)), var(0)), [0], 0)
        self.keeps(function(SAME, var(0)), [], 0)


class MoreVariables(Kept):
    def test_two(self):
        self.keeps(function(var(0), var(1)), [], 1, 1)
        self.keeps(function(var(0), var(1)), [], 2, 2)
        self.keeps(function(var(0), function(var(1), var(0))), [0 + 3 * 4], 2, 2)
        self.keeps(function(var(0), function(var(1), var(1))), [2 + 2 * 4], 2, 2)
        self.keeps(function(pair(var(0), var(1)), var(1)), [2 + 8], 2, 2)
        self.keeps(function(pair(var(0), var(1)), pair(var(1), var(0))), [2], 2, 1)
        self.keeps(function(either(var(0), var(1)), either(var(1), var(0))), [1 + 2 * 3 + 0 * 9], 2, 1)

    def test_two_with_a_set_of_none(self):
        self.keeps(function(var(0), var(1)), [0], 0, 2)
        self.keeps(function(var(0), var(1)), [], 2, 0)
        self.keeps(function(function(var(0), var(1)), var(1)), [0], 2, 0)

    def test_three(self):
        self.keeps(function(var(2), SAME), [2], 2, 1, 1)
        self.keeps(function(pair(var(1), pair(var(0), var(2))), var(0)), [2], 2, 1, 1)
        self.keeps(function(var(0), function(var(1), var(2))), [], 1, 1, 1)
        self.keeps(function(var(0), function(var(1), pair(var(0), var(1)))), [0], 1, 1, 1)
        self.keeps(function(var(0), function(var(1), pair(var(1), var(2)))), [], 1, 1, 1)
        self.keeps(function(var(2), var(0)), [0], 2, 2, 0)
        self.keeps(function(var(0), function(var(2), var(1))), [0], 2, 2, 0)
        self.keeps(function(var(0), function(var(1), either(var(2), var(0)))), [0 + 3 * 4], 2, 2, 0)


class OnlyLeftSets(Kept):
    def test_right_sets_and_what_is_related_do_not_matter(self):
        for right in (0, 1, 2, 3):
            pairs = [(x, y) for x in range(2) for y in range(right)]
            for told in ([], pairs[:1], pairs[1:3], pairs):
                for row, expected in ((SAME, [1, 2]), (var(0), [0]), (function(var(0), TWO), [2, 0, 3]),
                                      (function(var(0), SAME), [2, 10, 12])):
                    found = last(sets(0, 2, right), *[relate(0, x, y) for x, y in told], kept(row))
                    self.assertEqual(found, expected)

    def test_all_is_as_it_was(self):
        before = (begin(2), sets(0, 2, 3), relate(0, 1, 2), relate(0, 0, 1), relate(1, 0, 0))
        for row in (SAME, var(0), TWO, function(var(0), var(1)), [], either(OF_32, TWO)):
            found = tell(*before, kept(row), size(0, var(0)), size(1, var(0)), count(var(0)), count(var(1)),
                         related(0, 1, var(0)), related(1, 2, var(0)), related(0, 0, var(0)), kept(row), *probe(2))
            self.assertEqual(found[6:13], [[2], [3], [2, 0, 1], [1, 0, 0], [1], [1], [0]])
            self.assertEqual(found[13], found[5])
            self.assertEqual(found[14:], [[2], [3], [1], [1], [1], [0]])

    def test_too_large_on_the_right_alone(self):
        row = function(pair(var(0), TWO), var(0))
        self.assertEqual(tell(sets(0, 1, 3), count(row), kept(row))[1:], [[-8], [1, 0]])

    def test_too_large_on_the_left_alone(self):
        row = function(pair(var(0), either(var(0), TWO)), var(0))
        self.assertEqual(tell(sets(0, 2, 0), count(row), kept(row))[1:], [[-8], [-8]])

    def test_weight_is_the_lefts_by_itself(self):
        # 32 by 32 and 4 by 4 on the left; on the right there are none, so that count has nothing to weigh.
        row = function(pair(pair(var(0), FOUR), FOUR), function(pair(var(0), TWO), var(1)))
        found = tell(begin(2), sets(0, 2, 0), count(row), kept(row), sets(0, 0, 2), kept(row))
        self.assertEqual(found[2:], [[1, 0, 0], [-8], [0], [1, 0]])


class Refusals(Kept):
    def test_row(self):
        for row in ([], [2, 1], [1, 1], [5], var(1), pair(TWO, var(1)), [4] * 100, [2] * 6 + [1] * 7):
            with self.subTest(row=row):
                self.assertEqual(last(kept(row)), [-1])

    def test_a_set_of_3_on_the_left(self):
        for row in (var(0), TWO, SAME):
            self.assertEqual(last(sets(0, 3, 0), kept(row)), [-3])
            self.assertEqual(last(begin(3), sets(2, 3, 1), kept(row)), [-3])
            self.assertEqual(last(begin(2), sets(0, 0, 0), sets(1, 3, 0), kept(row)), [-3])

    def test_a_set_of_3_on_the_right(self):
        self.assertEqual(last(sets(0, 2, 3), kept(SAME)), [1, 2])
        self.assertEqual(last(begin(3), sets(0, 1, 3), sets(1, 1, 3), sets(2, 1, 3), kept(SAME)), [1, 0])

    def test_squares(self):
        for lefts, refused in (((2,), False), ((2, 2), False), ((2, 2, 0), False), ((0, 2, 2), False),
                               ((2, 1, 1), False), ((1, 1, 1), False), ((2, 2, 1), True), ((2, 1, 2), True),
                               ((1, 2, 2), True), ((2, 2, 2), True), ((0, 0, 0), False)):
            with self.subTest(lefts=lefts):
                self.assertEqual(last(*start(*lefts), kept(TWO)), [-3] if refused else [2, 0, 1])

    def test_row_before_squares(self):
        for row in ([], var(1), [1, 1], [5]):
            self.assertEqual(last(sets(0, 3, 3), kept(row)), [-1])

    def test_row_before_too_large(self):
        large = either(OF_32, TWO)
        self.assertEqual(tell(kept(large), kept(large + [1]), kept(pair(large, var(1)))), [[-8], [-1], [-1]])

    def test_squares_before_too_large(self):
        large = either(OF_32, TWO)
        self.assertEqual(tell(kept(large), sets(0, 3, 3), kept(large), kept(function(OF_32, function(OF_32, var(0))))),
                         [[-8], [0], [-3], [-3]])
        self.assertEqual(last(*start(2, 2, 1), kept(large)), [-3])

    def test_32_and_33(self):
        row = either(OF_32, var(0))
        self.assertEqual(tell(kept(OF_32), kept(row), sets(0, 0, 3), kept(row)),
                         [[32] + list(range(32)), [-8], [0], [32] + list(range(32))])
        self.keeps(function(either(TWO, either(var(0), TWO)), TWO), list(range(32)), 1)
        self.assertEqual(last(sets(0, 2, 1), kept(function(either(TWO, either(var(0), TWO)), TWO))), [-8])

    def test_small_with_a_large_one_in_it(self):
        row = function(either(OF_32, var(1)), SAME)
        self.assertEqual(tell(begin(2), kept(row), sets(1, 0, 3), kept(row)), [[0], [-8], [0], [1, 0]])

    def test_weight_of_up_to_4096(self):
        for types in ((EIGHT, EIGHT), (TWO, OF_32), (FOUR, FOUR, FOUR)):
            row = SAME
            for one in types:
                row = function(one, row)
            self.assertEqual(tell(kept(row), kept(function(TWO, row))), [[1, 0], [-8]])
        five = either(FOUR, var(0))
        row = function(five, function(either(EIGHT, five), var(0)))
        self.assertEqual(last(kept(row)), [-8])

    def test_weight_with_a_set_of_none(self):
        heavy = function(OF_32, function(FOUR, var(0)))
        self.assertEqual(tell(begin(2), kept(heavy), kept(function(var(1), heavy)), sets(1, 0, 3),
                              kept(function(var(1), heavy))), [[0], [-8], [-8], [0], [1, 0]])


if __name__ == "__main__":
    unittest.main()
