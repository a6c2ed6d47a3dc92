import unittest

from tests.calls import BIGGEST, ask, begin, probe, relate, sets, size, var


class Begin(unittest.TestCase):
    def test_each_count_of_variables(self):
        for k in (1, 2, 3):
            with self.subTest(k=k):
                self.assertEqual(ask(begin(k), *probe(k)), [0] + [1, 1, 1] * k)

    def test_no_more_variables_than_told(self):
        for k in (1, 2, 3):
            with self.subTest(k=k):
                beyond = [sets(k, 1, 1), relate(k, 0, 0), size(0, var(k)), size(1, var(k))]
                self.assertEqual(ask(begin(k), *beyond), [0, -1, -1, -1, -1])

    def test_new_house_has_one_variable(self):
        self.assertEqual(ask(*probe(1)), [1, 1, 1])
        self.assertEqual(ask(sets(1, 1, 1), relate(1, 0, 0), size(0, var(1))), [-1, -1, -1])

    def test_new_house_has_one_value_on_either_side(self):
        self.assertEqual(ask(relate(0, 1, 0), relate(0, 0, 1)), [-1, -1])

    def test_refused(self):
        for k in (0, 4, 5, 256, BIGGEST):
            with self.subTest(k=k):
                self.assertEqual(ask(begin(k)), [-1])

    def test_refused_on_a_new_house_changes_nothing(self):
        for k in (0, 4, BIGGEST):
            with self.subTest(k=k):
                self.assertEqual(ask(begin(k), *probe(1)), [-1, 1, 1, 1])
                self.assertEqual(ask(begin(k), sets(1, 1, 1)), [-1, -1])

    def test_refused_leaves_sets_and_pairs(self):
        before = [begin(2), sets(0, 2, 3), relate(0, 0, 0), sets(1, 3, 1), relate(1, 2, 0)]
        after = [size(0, var(0)), size(1, var(0)), size(0, var(1)), size(1, var(1)),
                 relate(0, 0, 0), relate(0, 1, 2), relate(1, 2, 0), relate(1, 0, 0), relate(2, 0, 0)]
        for k in (0, 4, BIGGEST):
            with self.subTest(k=k):
                found = ask(*before, begin(k), *after)
                self.assertEqual(found, [0, 0, 1, 0, 1] + [-1] + [2, 3, 3, 1, 0, 1, 0, 1, -1])

    def test_sets_are_of_one_behind_it(self):
        before = [begin(3), sets(0, 0, 3), sets(1, 2, 0), sets(2, 3, 3)]
        for k in (1, 2, 3):
            with self.subTest(k=k):
                self.assertEqual(ask(*before, begin(k), *probe(k)), [0] * 5 + [1, 1, 1] * k)

    def test_nothing_is_related_behind_it(self):
        before = [begin(3), relate(0, 0, 0), relate(1, 0, 0), relate(2, 0, 0)]
        for k in (1, 2, 3):
            with self.subTest(k=k):
                after = [relate(i, 0, 0) for i in range(k)]
                self.assertEqual(ask(*before, begin(k), *after), [0, 1, 1, 1, 0] + [1] * k)

    def test_fewer_variables_than_before(self):
        found = ask(begin(3), begin(1), sets(1, 1, 1), relate(2, 0, 0), size(0, var(1)))
        self.assertEqual(found, [0, 0, -1, -1, -1])

    def test_twice_in_a_row(self):
        self.assertEqual(ask(begin(2), begin(2), *probe(2)), [0, 0] + [1, 1, 1] * 2)


if __name__ == "__main__":
    unittest.main()
