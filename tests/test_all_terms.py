"""What the document says of all terms, tried at several."""

import itertools
import unittest

from tests.calls import (NO, TWO, YES, ask_if, begin, both, cases, count, either, first, function, kept, last, left,
                         meaning, pair, put, relate, related, right, second, sets, size, taking, tell, use, var)

V, W = var(0), var(1)
VV = function(V, V)

TERMS = [
    YES, NO, both(YES, NO), left(V, YES), right(V, NO), ask_if(NO, YES, NO),
    taking(V, use(0)), taking(V, YES), taking(V, both(use(0), use(0))), taking(V, left(W, use(0))),
    taking(V, right(TWO, use(0))), taking(TWO, ask_if(use(0), NO, YES)),
    taking(V, taking(W, use(0))), taking(V, taking(W, use(1))), taking(V, taking(V, use(1))),
    taking(V, taking(V, taking(TWO, ask_if(use(0), use(1), use(2))))),
    taking(V, taking(W, both(use(0), use(1)))), taking(pair(V, W), both(second(use(0)), first(use(0)))),
    taking(pair(V, TWO), ask_if(second(use(0)), left(V, first(use(0))), right(V, first(use(0))))),
    taking(either(V, V), cases(use(0), taking(V, use(0)), taking(V, use(0)))),
    taking(either(V, W), cases(use(0), taking(V, right(W, use(0))), taking(W, left(V, use(0))))),
    taking(either(V, TWO), cases(use(0), taking(V, NO), taking(TWO, use(0)))),
    taking(function(V, W), taking(V, put(use(1), use(0)))), taking(V, taking(VV, put(use(0), put(use(0), use(1))))),
    taking(VV, taking(V, put(use(1), put(use(1), use(0))))), taking(VV, taking(V, use(0))), taking(VV, use(0)),
    taking(function(V, TWO), taking(V, put(use(1), use(0)))),
    taking(function(TWO, V), both(put(use(0), YES), put(use(0), NO))),
    taking(V, put(taking(V, both(use(0), use(1))), use(0))),
    put(taking(function(V, TWO), taking(V, ask_if(put(use(1), use(0)), NO, YES))), taking(V, YES)),
]


def start_of(sizes, pairs):
    return [begin(len(sizes)), *[sets(i, n, m) for i, (n, m) in enumerate(sizes)], *[relate(*one) for one in pairs]]


def some_relations(sizes):
    """All relations if they are few; else some, none and all among them."""
    every = [(i, x, y) for i, (n, m) in enumerate(sizes) for x in range(n) for y in range(m)]
    if len(every) <= 5:
        return [[one for one, taken in zip(every, chosen) if taken]
                for chosen in itertools.product((0, 1), repeat=len(every))]
    return [[], every, every[::2], every[1::2], every[::3], every[:len(every) // 2], every[2::3]]


class AllTerms(unittest.TestCase):
    def test_meanings_are_related(self):
        tried = 0
        for sizes in (((1, 1), (1, 1)), ((2, 1), (1, 2)), ((2, 2), (1, 0)), ((2, 3), (0, 2)), ((0, 2), (2, 2)),
                      ((3, 2), (1, 1)), ((2, 2), (2, 2)), ((3, 0), (0, 3))):
            for pairs in some_relations(sizes):
                for row in TERMS:
                    tried += self.related_meanings(start_of(sizes, pairs), row)
        self.assertGreater(tried, 2000)

    def related_meanings(self, start, row):
        """Tells whether it could be tried: a type may be too large."""
        on_left, on_right = tell(*start, meaning(0, row), meaning(1, row))[-2:]
        if -8 in (on_left[0], on_right[0]):
            return False
        self.assertEqual(on_left[1:], on_right[1:])
        found = last(*start, related(on_left[0], on_right[0], on_left[1:]))
        self.assertIn(found, ([1], [-8]), (start, row))
        return found == [1]

    def test_what_a_term_means_is_kept(self):
        tried = 0
        for sizes in (((1, 1), (1, 1)), ((2, 0), (1, 3)), ((2, 3), (2, 0)), ((0, 2), (2, 2)), ((1, 2), (2, 1))):
            for row in TERMS:
                start = start_of(sizes, [])
                meant = last(*start, meaning(0, row))
                if meant == [-8]:
                    continue
                found = last(*start, kept(meant[1:]))
                if found != [-8]:
                    self.assertIn(meant[0], found[1:], (sizes, row))
                    tried += 1
        self.assertGreater(tried, 90)

    def test_each_related_to_itself_alone(self):
        types = [V, W, TWO, pair(V, W), either(W, V), VV, function(V, W), function(V, TWO), function(TWO, V),
                 function(pair(V, TWO), TWO), function(VV, TWO), function(V, VV), function(function(V, TWO), W),
                 either(function(W, V), pair(V, either(V, TWO))), function(either(V, W), V)]
        tried = 0
        for n, m in itertools.product(range(4), repeat=2):
            start = start_of(((n, n), (m, m)), [(0, x, x) for x in range(n)] + [(1, x, x) for x in range(m)])
            for row in types:
                many, found = tell(*start, size(0, row), count(row))[-2:]
                if found == [-8]:
                    continue
                tried += 1
                self.assertEqual(found, [many[0], 0, 0] if many[0] else [0], (n, m, row))
                # And each to itself: the last of them, too, and to no other.
                last_one = many[0] - 1
                if last_one > 0:
                    self.assertEqual(tell(*start, related(last_one, last_one, row), related(last_one, 0, row))[-2:],
                                     [[1], [0]])
        self.assertGreater(tried, 150)


if __name__ == "__main__":
    unittest.main()
