import itertools
import unittest

from tests.calls import BIGGEST, TWO, ask, begin, either, function, pair, relate, sets, size, var

FOUR = pair(TWO, TWO)
SIXTEEN = pair(FOUR, FOUR)
OF_256 = function(FOUR, FOUR)
OF_257 = either(OF_256, var(0))


def nested(depth):
    """A type of just that depth that has 2 elements while type variable 0 has a set of one."""
    row = TWO
    for level in range(depth - 1):
        row = function(var(0), row)
    return row


def listed(tree, sets_of):
    """The elements of a type one by one, or None if it, or one in it, has more than 256."""
    if tree[0] == "var":
        return list(range(sets_of[tree[1]]))
    if tree[0] == "two":
        return ["no", "yes"]
    first = listed(tree[1], sets_of)
    second = listed(tree[2], sets_of)
    if first is None or second is None:
        return None
    if tree[0] == "pair":
        found = itertools.product(first, second)
    elif tree[0] == "either":
        found = [("left", x) for x in first] + [("right", y) for y in second]
    else:
        found = itertools.product(second, repeat=len(first))
    some = list(itertools.islice(found, 257))
    return None if len(some) > 256 else some


def row_of(tree):
    if tree[0] == "var":
        return var(tree[1])
    if tree[0] == "two":
        return TWO
    made = {"pair": pair, "either": either, "function": function}[tree[0]]
    return made(row_of(tree[1]), row_of(tree[2]))


def trees(depth, variables):
    leaves = [("two",)] + [("var", i) for i in range(variables)]
    if depth == 1:
        return leaves
    parts = trees(depth - 1, variables)
    return leaves + [(head, a, b) for head in ("pair", "either", "function") for a in parts for b in parts]


class EachKind(unittest.TestCase):
    def test_two(self):
        self.assertEqual(ask(size(0, TWO), size(1, TWO)), [2, 2])

    def test_variables(self):
        found = ask(begin(3), sets(0, 0, 1), sets(1, 2, 3), sets(2, 3, 0),
                    *[size(side, var(i)) for i in range(3) for side in (0, 1)])
        self.assertEqual(found, [0, 0, 0, 0, 0, 1, 2, 3, 3, 0])

    def test_pair(self):
        found = ask(begin(2), sets(0, 2, 1), sets(1, 3, 0), size(0, pair(var(0), var(1))),
                    size(1, pair(var(0), var(1))), size(0, pair(var(1), var(1))), size(0, FOUR))
        self.assertEqual(found[3:], [6, 0, 9, 4])

    def test_either(self):
        found = ask(begin(2), sets(0, 2, 1), sets(1, 3, 0), size(0, either(var(0), var(1))),
                    size(1, either(var(0), var(1))), size(0, either(var(1), var(1))), size(0, either(TWO, TWO)))
        self.assertEqual(found[3:], [5, 1, 6, 4])

    def test_function(self):
        found = ask(begin(2), sets(0, 2, 1), sets(1, 3, 3), size(0, function(var(0), var(1))),
                    size(0, function(var(1), var(0))), size(1, function(var(0), var(1))),
                    size(1, function(var(1), var(0))), size(0, function(TWO, TWO)))
        self.assertEqual(found[3:], [9, 8, 3, 1, 4])

    def test_nested(self):
        found = ask(sets(0, 3, 2), size(0, pair(either(var(0), TWO), function(TWO, var(0)))),
                    size(1, pair(either(var(0), TWO), function(TWO, var(0)))),
                    size(0, function(pair(TWO, TWO), var(0))),
                    size(0, either(function(var(0), TWO), pair(var(0), var(0)))),
                    size(1, function(function(var(0), var(0)), either(TWO, TWO))))
        self.assertEqual(found, [0, 45, 16, 81, 17, 256])

    def test_relations_do_not_matter(self):
        row = function(var(0), var(0))
        self.assertEqual(ask(sets(0, 2, 3), relate(0, 0, 1), size(0, row), size(1, row)), [0, 1, 4, 27])


class SetsOfNone(unittest.TestCase):
    def test_function_from_none(self):
        self.assertEqual(ask(sets(0, 0, 3), size(0, function(var(0), TWO)), size(0, function(var(0), OF_256))),
                         [0, 1, 1])

    def test_function_to_none(self):
        self.assertEqual(ask(sets(0, 0, 3), size(0, function(TWO, var(0)))), [0, 0])

    def test_function_from_none_to_none(self):
        self.assertEqual(ask(sets(0, 0, 3), size(0, function(var(0), var(0)))), [0, 1])

    def test_pair_and_either(self):
        found = ask(sets(0, 3, 0), size(1, pair(var(0), TWO)), size(1, pair(TWO, var(0))),
                    size(1, either(var(0), TWO)), size(1, either(TWO, var(0))), size(1, either(var(0), var(0))))
        self.assertEqual(found, [0, 0, 0, 2, 2, 0])

    def test_nested(self):
        no_functions = function(TWO, var(0))
        found = ask(sets(0, 0, 1), size(0, function(no_functions, var(0))),
                    size(0, function(function(var(0), var(0)), var(0))),
                    size(0, function(pair(OF_256, var(0)), OF_256)))
        self.assertEqual(found, [0, 1, 0, 1])


class TooLarge(unittest.TestCase):
    def test_256_and_257(self):
        self.assertEqual(ask(size(0, OF_256), size(0, OF_257), size(1, OF_256), size(1, OF_257)),
                         [256, -8, 256, -8])

    def test_256_and_257_of_each_kind(self):
        found = ask(begin(2), sets(1, 0, 0), size(0, pair(SIXTEEN, SIXTEEN)), size(0, function(TWO, SIXTEEN)),
                    size(0, either(OF_256, var(1))), size(0, either(var(1), OF_256)),
                    size(0, either(OF_256, var(0))), size(0, either(var(0), OF_256)))
        self.assertEqual(found, [0, 0, 256, 256, 256, 256, -8, -8])

    def test_just_above_by_pairs_and_functions(self):
        found = ask(sets(0, 3, 3), size(0, pair(OF_256, TWO)), size(0, function(function(TWO, var(0)), TWO)),
                    size(0, function(either(var(0), TWO), var(0))),
                    size(0, function(either(var(0), var(0)), var(0))))
        self.assertEqual(found, [0, -8, -8, 243, -8])

    def test_far_above(self):
        self.assertEqual(ask(size(0, function(OF_256, OF_256)), size(1, function(OF_256, TWO))), [-8, -8])

    def test_small_with_a_large_one_in_it(self):
        found = ask(begin(2), sets(1, 0, 0), size(0, function(OF_257, var(0))), size(0, pair(OF_257, var(1))),
                    size(0, pair(var(1), OF_257)), size(0, function(var(1), OF_257)),
                    size(0, function(OF_257, var(1))))
        self.assertEqual(found, [0, 0] + [-8] * 5)

    def test_large_one_deep_in_it(self):
        # With variable 1 a set of none, each of these has 0 elements or 1 itself.
        emptied = pair(OF_257, var(1))
        found = ask(begin(2), sets(1, 0, 0), size(0, function(emptied, var(0))), size(0, function(var(1), emptied)),
                    size(0, either(emptied, var(0))), size(0, pair(pair(var(1), OF_257), TWO)))
        self.assertEqual(found, [0, 0] + [-8] * 4)

    def test_each_side_by_itself(self):
        row = function(pair(var(0), TWO), var(0))
        self.assertEqual(ask(sets(0, 3, 2), size(0, row), size(1, row)), [0, -8, 16])
        self.assertEqual(ask(sets(0, 2, 3), size(0, row), size(1, row)), [0, 16, -8])

    def test_all_is_as_it_was(self):
        found = ask(sets(0, 2, 3), relate(0, 1, 2), size(0, OF_257), size(0, var(0)), size(1, var(0)),
                    relate(0, 1, 2), relate(0, 0, 0))
        self.assertEqual(found, [0, 1, -8, 2, 3, 0, 1])


class Rows(unittest.TestCase):
    def refused(self, row, *before):
        found = ask(*before, size(0, row), size(1, row), size(0, TWO))
        self.assertEqual(found[len(before):], [-1, -1, 2], row)

    def test_depths(self):
        for depth in range(1, 7):
            with self.subTest(depth=depth):
                self.assertEqual(ask(size(0, nested(depth)), size(1, nested(depth))), [2, 2])
        for depth in (7, 8, 20, 34):
            with self.subTest(depth=depth):
                self.refused(nested(depth))

    def test_depths_by_each_kind_and_part(self):
        for made in (pair, either, function):
            for first in (True, False):
                row = var(0)
                for depth in range(2, 8):
                    row = made(row, var(0)) if first else made(var(0), row)
                    with self.subTest(made=made.__name__, first=first, depth=depth):
                        found = ask(sets(0, 0, 0), size(0, row))
                        self.assertEqual(found[1] == -1, depth == 7)

    def test_second_part_too_deep_behind_a_shallow_first(self):
        self.assertEqual(ask(size(0, pair(nested(5), nested(5)))), [4])
        self.refused(pair(nested(5), nested(6)))
        self.refused(pair(nested(6), nested(5)))

    def test_full_tree_of_depth_6(self):
        row = var(0)
        for level in range(5):
            row = pair(row, row)
        self.assertEqual(len(row), 95)
        self.assertEqual(ask(size(0, row), size(1, row)), [1, 1])

    def test_empty(self):
        self.refused([])

    def test_ends_too_soon(self):
        whole = function(pair(var(0), TWO), either(TWO, var(0)))
        for length in range(len(whole)):
            with self.subTest(length=length):
                self.refused(whole[:length])

    def test_numbers_left_over(self):
        for row in (TWO, var(0), pair(TWO, var(0)), function(FOUR, either(TWO, TWO))):
            for more in ([0], [1], [4], [BIGGEST], TWO * 20):
                with self.subTest(row=row, more=more):
                    self.refused(row + more)

    def test_number_that_begins_no_type(self):
        for head in (5, 6, 9, BIGGEST):
            for row in ([head], [head, 0], [head, 1, 1], [2, head, 1], [3, 1, head], [4, 1, 2, 0, 0, head]):
                with self.subTest(row=row):
                    self.refused(row)

    def test_variable_that_is_not_there(self):
        for k in (1, 2, 3):
            for i in (k, k + 1, BIGGEST):
                for row in (var(i), pair(var(i), TWO), function(TWO, var(i)), either(TWO, pair(var(0), var(i)))):
                    with self.subTest(k=k, row=row):
                        self.refused(row, begin(k))

    def test_100_numbers(self):
        for row in ([4] * 100, [2] * 99 + [1], [1] * 100, [0] * 100, [BIGGEST] * 100, TWO + [BIGGEST] * 99):
            with self.subTest(row=row):
                self.refused(row)

    def test_refused_row_changes_nothing(self):
        found = ask(sets(0, 2, 3), relate(0, 1, 2), size(0, [2, 1]), size(0, var(0)), size(1, var(0)),
                    relate(0, 1, 2), relate(0, 0, 0))
        self.assertEqual(found, [0, 1, -1, 2, 3, 0, 1])


class Sides(unittest.TestCase):
    def test_unlike_sets(self):
        row = function(var(0), either(var(1), TWO))
        found = ask(begin(2), sets(0, 3, 2), sets(1, 1, 3), size(0, row), size(1, row))
        self.assertEqual(found, [0, 0, 0, 27, 25])

    def test_no_such_side(self):
        for side in (2, 3, BIGGEST):
            for row in (TWO, var(0), FOUR, []):
                with self.subTest(side=side, row=row):
                    self.assertEqual(ask(size(side, row), size(0, TWO)), [-1, 2])


class FirstRefusal(unittest.TestCase):
    def test_side_before_too_large(self):
        self.assertEqual(ask(size(2, OF_257), size(BIGGEST, OF_257)), [-1, -1])

    def test_row_before_too_large(self):
        large = pair(OF_256, TWO)
        for row in (large + [1], OF_257 + [0, 0], large[:-1], pair(large, var(1)), pair(var(1), large),
                    pair(large, [5]), pair(large, nested(6)), function(nested(6), large)):
            with self.subTest(row=row):
                self.assertEqual(ask(size(0, row), size(1, row)), [-1, -1])

    def test_variable_gone_before_too_large(self):
        row = pair(OF_257, var(1))
        self.assertEqual(ask(begin(2), size(0, row), begin(1), size(0, row)), [0, -8, 0, -1])


class AgainstListedElements(unittest.TestCase):
    def compare(self, depth, sizes):
        start = [begin(len(sizes))] + [sets(i, n, m) for i, (n, m) in enumerate(sizes)]
        for tree in trees(depth, len(sizes)):
            found = ask(*start, size(0, row_of(tree)), size(1, row_of(tree)))[-2:]
            for side in (0, 1):
                elements = listed(tree, [both[side] for both in sizes])
                expected = -8 if elements is None else len(elements)
                self.assertEqual(found[side], expected, (tree, sizes, side))

    def test_one_variable(self):
        for sizes in ((0, 3), (1, 2)):
            with self.subTest(sizes=sizes):
                self.compare(3, [sizes])

    def test_three_variables(self):
        self.compare(2, [(0, 2), (1, 0), (3, 1)])


if __name__ == "__main__":
    unittest.main()
