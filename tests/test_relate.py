import unittest

from tests.calls import BIGGEST, ask, begin, relate, sets, size, var


class Relate(unittest.TestCase):
    def test_told_then_told_again(self):
        self.assertEqual(ask(relate(0, 0, 0), relate(0, 0, 0), relate(0, 0, 0)), [1, 0, 0])

    def test_every_pair_is_one_of_its_own(self):
        pairs = [relate(0, x, y) for x in range(3) for y in range(3)]
        self.assertEqual(ask(sets(0, 3, 3), *pairs, *pairs), [0] + [1] * 9 + [0] * 9)

    def test_sides_are_not_swapped(self):
        found = ask(sets(0, 3, 2), relate(0, 2, 1), relate(0, 1, 2), relate(0, 2, 1), relate(0, 1, 1))
        self.assertEqual(found, [0, 1, -1, 0, 1])
        found = ask(sets(0, 2, 2), relate(0, 0, 1), relate(0, 1, 0), relate(0, 0, 1), relate(0, 1, 0))
        self.assertEqual(found, [0, 1, 1, 0, 0])

    def test_each_variable_has_its_own_pairs(self):
        once = [relate(i, 0, 0) for i in range(3)]
        self.assertEqual(ask(begin(3), *once, *once), [0, 1, 1, 1, 0, 0, 0])

    def test_sets_stay(self):
        found = ask(sets(0, 3, 2), relate(0, 0, 1), size(0, var(0)), size(1, var(0)))
        self.assertEqual(found, [0, 1, 3, 2])

    def test_no_such_variable(self):
        for k in (1, 2, 3):
            for i in (k, k + 1, BIGGEST):
                with self.subTest(k=k, i=i):
                    self.assertEqual(ask(begin(k), relate(i, 0, 0)), [0, -1])

    def test_nothing_such_on_the_left(self):
        for n in (1, 2, 3):
            for x in (n, n + 1, BIGGEST):
                with self.subTest(n=n, x=x):
                    found = ask(sets(0, n, 3), relate(0, x, 0), relate(0, n - 1, 0))
                    self.assertEqual(found, [0, -1, 1])

    def test_nothing_such_on_the_right(self):
        for m in (1, 2, 3):
            for y in (m, m + 1, BIGGEST):
                with self.subTest(m=m, y=y):
                    found = ask(sets(0, 3, m), relate(0, 0, y), relate(0, 0, m - 1))
                    self.assertEqual(found, [0, -1, 1])

    def test_each_variable_has_its_own_sets(self):
        found = ask(begin(2), sets(0, 1, 3), sets(1, 3, 1), relate(0, 0, 2), relate(1, 0, 2),
                    relate(0, 2, 0), relate(1, 2, 0))
        self.assertEqual(found, [0, 0, 0, 1, -1, -1, 1])

    def test_set_of_none(self):
        for n, m in ((0, 0), (0, 3), (3, 0)):
            with self.subTest(n=n, m=m):
                self.assertEqual(ask(sets(0, n, m), relate(0, 0, 0)), [0, -1])

    def test_refused_changes_nothing(self):
        for refused in (relate(1, 0, 0), relate(BIGGEST, 1, 1), relate(0, 2, 0), relate(0, 0, 3),
                        relate(0, BIGGEST, BIGGEST)):
            with self.subTest(refused=refused):
                found = ask(sets(0, 2, 3), relate(0, 1, 2), refused, size(0, var(0)), size(1, var(0)),
                            relate(0, 1, 2), relate(0, 0, 0), relate(0, 1, 0), relate(0, 0, 2))
                self.assertEqual(found, [0, 1, -1, 2, 3, 0, 1, 1, 1])


if __name__ == "__main__":
    unittest.main()
