import unittest

from tests.calls import BIGGEST, ask, begin, relate, sets, size, var


class Sets(unittest.TestCase):
    def test_each_variable_and_each_size(self):
        for k in (1, 2, 3):
            for i in range(k):
                for n in range(4):
                    for m in range(4):
                        with self.subTest(k=k, i=i, n=n, m=m):
                            found = ask(begin(k), sets(i, n, m), size(0, var(i)), size(1, var(i)))
                            self.assertEqual(found, [0, 0, n, m])

    def test_other_variables_keep_their_sets(self):
        found = ask(begin(3), sets(0, 2, 3), sets(2, 0, 1), sets(1, 3, 2),
                    size(0, var(0)), size(1, var(0)), size(0, var(1)), size(1, var(1)),
                    size(0, var(2)), size(1, var(2)))
        self.assertEqual(found, [0, 0, 0, 0, 2, 3, 3, 2, 0, 1])

    def test_told_again(self):
        found = ask(sets(0, 3, 0), sets(0, 1, 2), size(0, var(0)), size(1, var(0)))
        self.assertEqual(found, [0, 0, 1, 2])

    def test_none_is_related_behind_it(self):
        for n, m in ((1, 1), (2, 3), (3, 2)):
            with self.subTest(n=n, m=m):
                found = ask(sets(0, n, m), relate(0, 0, 0), relate(0, 0, 0), sets(0, n, m), relate(0, 0, 0))
                self.assertEqual(found, [0, 1, 0, 0, 1])

    def test_none_is_related_behind_a_set_of_none(self):
        found = ask(relate(0, 0, 0), sets(0, 0, 0), sets(0, 1, 1), relate(0, 0, 0))
        self.assertEqual(found, [1, 0, 0, 1])

    def test_other_variables_keep_their_pairs(self):
        found = ask(begin(3), relate(0, 0, 0), relate(1, 0, 0), relate(2, 0, 0), sets(1, 1, 1),
                    relate(0, 0, 0), relate(1, 0, 0), relate(2, 0, 0))
        self.assertEqual(found, [0, 1, 1, 1, 0, 0, 1, 0])

    def test_no_such_variable(self):
        for k in (1, 2, 3):
            for i in (k, k + 1, BIGGEST):
                with self.subTest(k=k, i=i):
                    self.assertEqual(ask(begin(k), sets(i, 1, 1)), [0, -1])

    def test_left_too_large(self):
        for n in (4, 5, BIGGEST):
            with self.subTest(n=n):
                self.assertEqual(ask(sets(0, n, 0), sets(0, n, 3)), [-1, -1])

    def test_right_too_large(self):
        for m in (4, 5, BIGGEST):
            with self.subTest(m=m):
                self.assertEqual(ask(sets(0, 0, m), sets(0, 3, m)), [-1, -1])

    def test_refused_changes_nothing(self):
        for refused in (sets(2, 1, 1), sets(BIGGEST, 0, 0), sets(0, 4, 1), sets(0, 1, 4),
                        sets(1, BIGGEST, 0), sets(1, 0, BIGGEST), sets(1, 4, 4)):
            with self.subTest(refused=refused):
                found = ask(begin(2), sets(0, 2, 3), relate(0, 1, 2), sets(1, 3, 2), relate(1, 2, 1),
                            refused,
                            size(0, var(0)), size(1, var(0)), size(0, var(1)), size(1, var(1)),
                            relate(0, 1, 2), relate(1, 2, 1), relate(0, 0, 0), relate(2, 0, 0))
                self.assertEqual(found, [0, 0, 1, 0, 1, -1, 2, 3, 3, 2, 0, 0, 1, -1])


if __name__ == "__main__":
    unittest.main()
