import contextlib
import inspect
import io
import sys
import unittest

from freecharge import house
from freecharge.house import answers
from tests.calls import (BIGGEST, NO, TWO, YES, ask_if, begin, both, count, either, first, function, joined, kept,
                         left, meaning, pair, put, relate, related, sets, size, split, taking, use, var)


class Unchangeable(list):
    """A list that tells when something tries to change it, even for a while."""

    def refuse(self, *given, **named):
        raise AssertionError("the list handed in was changed")

    append = extend = insert = pop = remove = clear = sort = reverse = refuse
    __setitem__ = __delitem__ = __iadd__ = __imul__ = refuse


MIXED = [
    (size(0, var(0)), [1]), (relate(0, 0, 0), [1]), (relate(0, 0, 0), [0]), (begin(0), [-1]),
    (begin(2), [0]), (relate(0, 0, 0), [1]), (sets(0, 2, 3), [0]), (sets(1, 0, 1), [0]), (sets(2, 1, 1), [-1]),
    (relate(0, 1, 2), [1]), (relate(0, 2, 1), [-1]), (relate(0, 1, 2), [0]), (relate(1, 0, 0), [-1]),
    (size(0, function(var(0), TWO)), [4]), (size(1, function(var(0), TWO)), [8]),
    (size(0, function(var(1), TWO)), [1]), (size(0, function(TWO, var(1))), [0]),
    (size(2, TWO), [-1]), (size(0, []), [-1]), (size(1, [2, 1]), [-1]), (size(1, [1, 1]), [-1]),
    (size(1, function(function(var(0), var(0)), TWO)), [-8]),
    (size(0, function(function(var(0), var(0)), TWO)), [16]),
    (sets(0, 4, 0), [-1]), (size(0, either(var(0), var(1))), [2]), (size(1, pair(var(0), var(1))), [3]),
    (begin(BIGGEST), [-1]), (relate(0, 1, 2), [0]), (sets(0, 2, 3), [0]), (relate(0, 1, 2), [1]),
    (begin(3), [0]), (size(0, var(2)), [1]), (size(1, var(0)), [1]), (relate(2, 0, 0), [1]), (begin(1), [0]),
    (relate(2, 0, 0), [-1]), (relate(0, 0, 0), [1]), (size(0, var(1)), [-1]),
]

SAME = function(var(0), var(0))
OF_256 = function(pair(TWO, TWO), pair(TWO, TWO))

# Calls of all kinds, with refusals of all kinds among them: 60 calls, 8 of them kept.
ALL_KINDS = [
    (count(var(0)), [0]), (related(0, 0, var(0)), [0]), (kept(SAME), [1, 0]), (meaning(1, YES), [1, 1]),
    (relate(0, 0, 0), [1]), (count(var(0)), [1, 0, 0]), (related(0, 0, var(0)), [1]), (kept(var(0)), [0]),
    (sets(0, 3, 2), [0]), (count(var(0)), [0]), (kept(SAME), [-3]), (size(0, SAME), [27]),
    (meaning(0, taking(var(0), use(0))), [21] + SAME), (meaning(1, taking(var(0), use(0))), [2] + SAME),
    (meaning(2, YES), [-1]), (meaning(0, use(0)), [-7, 0, 1]), (meaning(0, both(YES, first(NO))), [-7, 2, 2]),
    (meaning(0, ask_if(YES, NO, both(YES, NO))), [-7, 0, 3]), (meaning(0, [12]), [-1]), (meaning(0, []), [-1]),
    (relate(0, 2, 0), [1]), (relate(0, 1, 1), [1]), (count(var(0)), [2, 1, 1]), (relate(0, 1, 1), [0]),
    (related(21, 2, SAME), [1]), (related(21, 0, SAME), [0]), (related(27, 2, SAME), [-1]),
    (related(21, 4, SAME), [-1]), (related(0, 0, OF_256), [1]), (related(0, 0, either(OF_256, TWO)), [-8]),
    (count(pair(SAME, SAME)), [-8]), (count([1, 1]), [-1]), (kept([]), [-1]), (related(0, 0, [5]), [-1]),
    (meaning(0, left(OF_256, YES)), [-8]), (size(0, either(OF_256, TWO)), [-8]),
    (begin(4), [-1]), (sets(1, 1, 1), [-1]), (relate(0, 3, 0), [-1]), (count(var(0)), [2, 1, 1]),
    (begin(2), [0]), (sets(0, 2, 3), [0]), (sets(1, 2, 0), [0]),
    (kept(function(var(0), function(var(1), var(0)))), [1, 12]), (kept(function(var(0), TWO)), [2, 0, 3]),
    (kept(function(pair(TWO, pair(TWO, TWO)), TWO)), [-8]), (kept(TWO), [2, 0, 1]), (count(TWO), [2, 0, 0]),
    (count(function(var(1), var(0))), [4, 0, 0]), (related(3, 0, function(var(1), var(0))), [1]),
    (meaning(1, taking(var(1), use(0))), [0, 4, 0, 1, 0, 1]), (meaning(0, taking(var(1), use(0))), [2, 4, 0, 1, 0, 1]),
    (meaning(0, put(taking(TWO, left(var(0), use(0))), YES)), [1, 3, 1, 0, 0]), (meaning(0, YES + NO), [-1]),
    (size(1, either(var(0), var(1))), [3]), (size(2, TWO), [-1]), (relate(0, 1, 2), [1]), (relate(0, 1, 2), [0]),
    (count(pair(var(0), var(0))), [1, 3, 8]), (begin(1), [0]),
]


def expected_of(calls):
    found = []
    for call, answer in calls:
        found += [len(answer)] + answer
    return found


class Answers(unittest.TestCase):
    def test_one_function_of_one_argument(self):
        self.assertEqual(list(inspect.signature(answers).parameters), ["calls"])
        self.assertEqual(answers.__module__, house.__name__)
        self.assertEqual(house.__name__, "freecharge.house")

    def test_each_call_alone(self):
        for call, expected in (([0, 1], [1, 0]), ([1, 0, 2, 3], [1, 0]), ([2, 0, 0, 0], [1, 1]),
                               ([3, 0, 1, 1], [1, 2]), ([3, 1, 2, 0, 0], [1, 1]), ([3, 0, 0], [1, -1]),
                               ([0, 4], [1, -1])):
            with self.subTest(call=call):
                self.assertEqual(answers(call), expected)

    def test_mixed_calls(self):
        self.assertEqual(answers(joined(call for call, answer in MIXED)), expected_of(MIXED))

    def test_every_beginning_of_the_mixed_calls(self):
        for length in range(1, len(MIXED) + 1):
            with self.subTest(length=length):
                some = MIXED[:length]
                self.assertEqual(answers(joined(call for call, answer in some)), expected_of(some))

    def test_60_calls(self):
        calls = (MIXED + [(begin(1), [0])] + MIXED)[:60]
        self.assertEqual(len(calls), 60)
        self.assertEqual(answers(joined(call for call, answer in calls)), expected_of(calls))

    def test_60_calls_of_all_kinds(self):
        self.assertEqual(len(ALL_KINDS), 60)
        self.assertEqual(sorted({call[0] for call, answer in ALL_KINDS}), list(range(8)))
        self.assertEqual(len([call for call, answer in ALL_KINDS if call[0] == 7]), 8)
        self.assertEqual(answers(joined(call for call, answer in ALL_KINDS)), expected_of(ALL_KINDS))

    def test_every_beginning_of_the_calls_of_all_kinds(self):
        for length in range(1, len(ALL_KINDS) + 1):
            with self.subTest(length=length):
                some = ALL_KINDS[:length]
                self.assertEqual(answers(joined(call for call, answer in some)), expected_of(some))

    def test_what_only_asks_or_is_refused_changes_nothing(self):
        some = [(call, answer) for call, answer in ALL_KINDS if call[0] in (0, 1, 2) and answer[0] >= 0]
        others = [(call, answer) for call, answer in ALL_KINDS if (call, answer) not in some]
        self.assertEqual(answers(joined(call for call, answer in some)), expected_of(some))
        probing = [count(var(0)), count(var(1)), size(0, var(0)), size(1, var(0)), size(0, var(1)), size(1, var(1))]
        start = begin(2) + sets(0, 2, 3) + relate(0, 1, 2) + relate(0, 0, 0) + sets(1, 1, 2)
        for call, answer in others:
            with self.subTest(call=call):
                if call[0] in (0, 1, 2) and answers(start + call)[-1] >= 0:
                    continue
                found = split(answers(start + call + call + joined(probing)))
                self.assertEqual(found[5], found[6])
                self.assertEqual(found[7:], [[2, 0, 0], [0], [2], [3], [1], [2]])

    def test_any_call_first(self):
        for call, expected in ((begin(2), [1, 0]), (sets(0, 0, 3), [1, 0]), (relate(0, 0, 0), [1, 1]),
                               (size(1, TWO), [1, 2]), (meaning(0, both(YES, NO)), [4, 2, 2, 1, 1]),
                               (related(1, 1, TWO), [1, 1]), (count(TWO), [3, 2, 0, 0]), (kept(TWO), [3, 2, 0, 1]),
                               (meaning(0, use(0)), [3, -7, 0, 1]), (count(var(0)), [1, 0]), (kept(var(0)), [1, 0])):
            with self.subTest(call=call):
                self.assertEqual(answers(call), expected)

    def test_60_terms_and_types_with_rows_of_100(self):
        rows = ([7] * 100, [1] * 100, [8] * 99 + [9], [0] * 100, [BIGGEST] * 100, [9] * 100)
        calls = []
        for turn in range(20):
            row = rows[turn % 6]
            calls.append(meaning(turn % 3, row))
            calls.append(related(BIGGEST, BIGGEST, row))
            calls.append(kept(row) if turn < 8 else count(row))
        self.assertEqual(answers(joined(calls)), [1, -1] * 60)

    def test_60_calls_with_rows_of_100(self):
        rows = ([4] * 100, [1] * 100, [0] * 100, [BIGGEST] * 100)
        calls = joined(size(turn % 3, rows[turn % 4]) for turn in range(60))
        self.assertEqual(answers(calls), [1, -1] * 60)

    def test_a_refused_row_does_not_shift_the_next_call(self):
        for row in ([], [2], [1, 0, 1], [0, 9, 3, 3], [9] * 100):
            for refused in (size(0, row), size(2, row), meaning(0, row), meaning(2, row), related(0, 0, row),
                            related(9, 9, row), count(row), kept(row)):
                with self.subTest(refused=refused):
                    found = answers(refused + size(0, pair(TWO, TWO)) + begin(2) + sets(1, 3, 0))
                    self.assertEqual(found, [1, -1, 1, 4, 1, 0, 1, 0])

    def test_gives_back_a_list_of_ints(self):
        for calls in (MIXED, ALL_KINDS):
            found = answers(joined(call for call, answer in calls))
            self.assertIs(type(found), list)
            self.assertEqual({type(number) for number in found}, {int})
            self.assertEqual(len(split(found)), len(calls))

    def test_no_other_number_is_below_0(self):
        for answer in split(answers(joined(call for call, answer in ALL_KINDS))):
            self.assertEqual([number for number in answer[1:] if number < 0], [])
            if answer[0] < 0:
                self.assertEqual(len(answer), 3 if answer[0] == -7 else 1)


class HandedIn(unittest.TestCase):
    def test_is_as_it_was(self):
        for some in (MIXED, ALL_KINDS):
            calls = joined(call for call, answer in some)
            before = list(calls)
            answers(calls)
            self.assertEqual(calls, before)

    def test_is_not_changed_for_a_while_either(self):
        for some in (MIXED, ALL_KINDS):
            calls = Unchangeable(joined(call for call, answer in some))
            self.assertEqual(answers(calls), expected_of(some))

    def test_what_is_given_back_is_a_list_of_its_own(self):
        calls = [0, 1]
        found = answers(calls)
        found.append(7)
        self.assertEqual(calls, [0, 1])
        self.assertEqual(answers(calls), [1, 0])


class NothingKept(unittest.TestCase):
    def test_twice_the_same(self):
        for some in (MIXED, ALL_KINDS):
            calls = joined(call for call, answer in some)
            self.assertEqual(answers(calls), answers(calls))

    def test_twice_the_same_with_others_between(self):
        calls = joined(call for call, answer in ALL_KINDS)
        for call, answer in ALL_KINDS:
            answers(call)
            answers(begin(3) + sets(0, 2, 2) + relate(0, 1, 1) + call)
        self.assertEqual(answers(calls), expected_of(ALL_KINDS))

    def test_new_house_each_time(self):
        self.assertEqual(answers(begin(3) + sets(0, 3, 3) + relate(0, 0, 0)), [1, 0, 1, 0, 1, 1])
        found = answers(size(0, var(0)) + size(1, var(0)) + relate(0, 0, 0) + relate(1, 0, 0))
        self.assertEqual(found, [1, 1, 1, 1, 1, 1, 1, -1])

    def test_nothing_is_printed_or_read(self):
        printed = io.StringIO()
        kept = sys.stdin
        sys.stdin = None
        try:
            with contextlib.redirect_stdout(printed), contextlib.redirect_stderr(printed):
                answers(joined(call for call, answer in MIXED))
                answers(joined(call for call, answer in ALL_KINDS))
        finally:
            sys.stdin = kept
        self.assertEqual(printed.getvalue(), "")

    def test_nothing_is_imported(self):
        before = set(sys.modules)
        answers(joined(call for call, answer in MIXED))
        answers(joined(call for call, answer in ALL_KINDS))
        self.assertEqual(set(sys.modules), before)

    def test_not_many_calls_within_one_another(self):
        deep = YES
        for level in range(19):
            deep = left(var(0), deep)
        calls = [sets(0, 0, 0), meaning(0, deep), meaning(0, [2] * 19 + YES), meaning(0, [7, 1] * 19 + use(18))]
        expected = [[0], [1] + [3] * 19 + TWO + var(0) * 19, [-7, 18, 2], [-8]]
        calls += [asked(row) for row in ([4] * 100, [2] * 99 + [1], [3, 1] * 50) for asked in (count, kept)] * 2
        calls += [meaning(0, row) for row in ([1] * 100, [2] * 99 + [9], [11] * 100, [8, 9] * 50)] * 5
        expected += [[-1]] * 32
        found = self.answered_within(120, joined(calls))
        self.assertEqual(split(found), expected)

    def test_gone_through_by_loops(self):
        calls = joined(size(0, row) for row in ([4] * 100, [2] * 99 + [1], [3, 1] * 50) * 20)
        self.assertEqual(self.answered_within(30, calls), [1, -1] * 60)

    def answered_within(self, frames, calls):
        """What is answered when so few calls within one another are allowed."""
        kept_limit = sys.getrecursionlimit()
        sys.setrecursionlimit(len(inspect.stack()) + frames)
        try:
            return answers(calls)
        finally:
            sys.setrecursionlimit(kept_limit)


if __name__ == "__main__":
    unittest.main()
