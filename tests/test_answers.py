import contextlib
import inspect
import io
import sys
import unittest

from freecharge import house
from freecharge.house import answers
from tests.calls import BIGGEST, TWO, begin, either, function, joined, pair, relate, sets, size, split, var


class Unchangeable(list):
    """A list that tells when something tries to change it, even for a while."""

    def refuse(self, *given, **named):
        raise AssertionError("the list handed in was changed")

    append = extend = insert = pop = remove = clear = sort = reverse = refuse
    __setitem__ = __delitem__ = __iadd__ = __imul__ = refuse


MIXED = [
    (size(0, var(0)), [1]), (relate(0, 0, 0), [1]), (relate(0, 0, 0), [0]), (begin(0), [-1]),
    (begin(2), [0]), (relate(0, 0, 0), [1]), (sets(0, 2, 3), [0]), (sets(1, 0, 1), [0]), (sets(2, 1, 1), [-1]),
    (relate(0, 1, 2), [1]), (relate(0, 2, 1), [-1]), (relate(0, 1, 2), [0]), (relate(1, 0, 0), [-1]),
    (size(0, function(var(0), TWO)), [4]), (size(1, function(var(0), TWO)), [8]),
    (size(0, function(var(1), TWO)), [1]), (size(0, function(TWO, var(1))), [0]),
    (size(2, TWO), [-1]), (size(0, []), [-1]), (size(1, [2, 1]), [-1]), (size(1, [1, 1]), [-1]),
    (size(1, function(function(var(0), var(0)), TWO)), [-8]),
    (size(0, function(function(var(0), var(0)), TWO)), [16]),
    (sets(0, 4, 0), [-1]), (size(0, either(var(0), var(1))), [2]), (size(1, pair(var(0), var(1))), [3]),
    (begin(BIGGEST), [-1]), (relate(0, 1, 2), [0]), (sets(0, 2, 3), [0]), (relate(0, 1, 2), [1]),
    (begin(3), [0]), (size(0, var(2)), [1]), (size(1, var(0)), [1]), (relate(2, 0, 0), [1]), (begin(1), [0]),
    (relate(2, 0, 0), [-1]), (relate(0, 0, 0), [1]), (size(0, var(1)), [-1]),
]


def expected_of(calls):
    found = []
    for call, answer in calls:
        found += [len(answer)] + answer
    return found


class Answers(unittest.TestCase):
    def test_one_function_of_one_argument(self):
        self.assertEqual(list(inspect.signature(answers).parameters), ["calls"])
        self.assertEqual(answers.__module__, house.__name__)
        self.assertEqual(house.__name__, "freecharge.house")

    def test_each_call_alone(self):
        for call, expected in (([0, 1], [1, 0]), ([1, 0, 2, 3], [1, 0]), ([2, 0, 0, 0], [1, 1]),
                               ([3, 0, 1, 1], [1, 2]), ([3, 1, 2, 0, 0], [1, 1]), ([3, 0, 0], [1, -1]),
                               ([0, 4], [1, -1])):
            with self.subTest(call=call):
                self.assertEqual(answers(call), expected)

    def test_mixed_calls(self):
        self.assertEqual(answers(joined(call for call, answer in MIXED)), expected_of(MIXED))

    def test_every_beginning_of_the_mixed_calls(self):
        for length in range(1, len(MIXED) + 1):
            with self.subTest(length=length):
                some = MIXED[:length]
                self.assertEqual(answers(joined(call for call, answer in some)), expected_of(some))

    def test_60_calls(self):
        calls = (MIXED + [(begin(1), [0])] + MIXED)[:60]
        self.assertEqual(len(calls), 60)
        self.assertEqual(answers(joined(call for call, answer in calls)), expected_of(calls))

    def test_60_calls_with_rows_of_100(self):
        rows = ([4] * 100, [1] * 100, [0] * 100, [BIGGEST] * 100)
        calls = joined(size(turn % 3, rows[turn % 4]) for turn in range(60))
        self.assertEqual(answers(calls), [1, -1] * 60)

    def test_a_refused_row_does_not_shift_the_next_call(self):
        for row in ([], [2], [1, 0, 1], [0, 9, 3, 3], [9] * 100):
            for side in (0, 2):
                with self.subTest(row=row, side=side):
                    found = answers(size(side, row) + size(0, pair(TWO, TWO)) + begin(2) + sets(1, 3, 0))
                    self.assertEqual(found, [1, -1, 1, 4, 1, 0, 1, 0])

    def test_gives_back_a_list_of_ints(self):
        found = answers(joined(call for call, answer in MIXED))
        self.assertIs(type(found), list)
        self.assertEqual({type(number) for number in found}, {int})
        self.assertEqual(len(split(found)), len(MIXED))


class HandedIn(unittest.TestCase):
    def test_is_as_it_was(self):
        calls = joined(call for call, answer in MIXED)
        before = list(calls)
        answers(calls)
        self.assertEqual(calls, before)

    def test_is_not_changed_for_a_while_either(self):
        calls = Unchangeable(joined(call for call, answer in MIXED))
        self.assertEqual(answers(calls), expected_of(MIXED))

    def test_what_is_given_back_is_a_list_of_its_own(self):
        calls = [0, 1]
        found = answers(calls)
        found.append(7)
        self.assertEqual(calls, [0, 1])
        self.assertEqual(answers(calls), [1, 0])


class NothingKept(unittest.TestCase):
    def test_twice_the_same(self):
        calls = joined(call for call, answer in MIXED)
        self.assertEqual(answers(calls), answers(calls))

    def test_new_house_each_time(self):
        self.assertEqual(answers(begin(3) + sets(0, 3, 3) + relate(0, 0, 0)), [1, 0, 1, 0, 1, 1])
        found = answers(size(0, var(0)) + size(1, var(0)) + relate(0, 0, 0) + relate(1, 0, 0))
        self.assertEqual(found, [1, 1, 1, 1, 1, 1, 1, -1])

    def test_nothing_is_printed_or_read(self):
        printed = io.StringIO()
        kept = sys.stdin
        sys.stdin = None
        try:
            with contextlib.redirect_stdout(printed), contextlib.redirect_stderr(printed):
                answers(joined(call for call, answer in MIXED))
        finally:
            sys.stdin = kept
        self.assertEqual(printed.getvalue(), "")

    def test_nothing_is_imported(self):
        before = set(sys.modules)
        answers(joined(call for call, answer in MIXED))
        self.assertEqual(set(sys.modules), before)

    def test_gone_through_by_loops(self):
        kept = sys.getrecursionlimit()
        calls = joined(size(0, row) for row in ([4] * 100, [2] * 99 + [1], [3, 1] * 50) * 20)
        sys.setrecursionlimit(len(inspect.stack()) + 30)
        try:
            found = answers(calls)
        finally:
            sys.setrecursionlimit(kept)
        self.assertEqual(found, [1, -1] * 60)


if __name__ == "__main__":
    unittest.main()
