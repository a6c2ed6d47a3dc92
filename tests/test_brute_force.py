"""Random calls against a slow house that goes by the words alone: elements are spelled out, not numbered."""

import itertools
import random
import unittest

from tests.calls import begin, count, kept, last, meaning, related, relate, sets, size, tell

NO_OR_YES = ("no", "yes")
OWN_PARTS = {0: 0, 1: 2, 2: 1, 3: 1, 4: 1, 5: 1, 6: 3, 7: 1, 8: 2, 9: 0, 10: 0, 11: 3}


class Refused(Exception):
    pass


def type_row(kind):
    return list(kind) if kind[0] < 2 else [kind[0]] + type_row(kind[1]) + type_row(kind[2])


def type_depth(kind):
    return 1 if kind[0] < 2 else 1 + max(type_depth(kind[1]), type_depth(kind[2]))


def spelled(kind, sizes, most):
    """The elements of a type in the order of their numbers, each spelled out."""
    if kind[0] == 0:
        return [(kind[1], n) for n in range(sizes[kind[1]])]
    if kind[0] == 1:
        return list(NO_OR_YES)
    firsts, seconds = spelled(kind[1], sizes, most), spelled(kind[2], sizes, most)
    if kind[0] == 2:
        made = itertools.product(firsts, seconds)
    elif kind[0] == 3:
        made = [("left", x) for x in firsts] + [("right", y) for y in seconds]
    else:
        # What a function has for 0 changes fastest, so the products are read backwards.
        made = (tuple(zip(firsts, reversed(given))) for given in itertools.product(seconds, repeat=len(firsts)))
    found = list(itertools.islice(made, most + 1))
    if len(found) > most:
        raise Refused([-8])
    return found


class SlowHouse:
    def __init__(self, sizes, pairs):
        self.sizes = sizes
        self.pairs = pairs

    def are_related(self, kind, x, y):
        if kind[0] == 0:
            return (kind[1], x[1], y[1]) in self.pairs
        if kind[0] == 1:
            return x == y
        if kind[0] == 2:
            return self.are_related(kind[1], x[0], y[0]) and self.are_related(kind[2], x[1], y[1])
        if kind[0] == 3:
            return x[0] == y[0] and self.are_related(kind[1 if x[0] == "left" else 2], x[1], y[1])
        return all(self.are_related(kind[2], fx, gy) for a, fx in x for b, gy in y
                   if self.are_related(kind[1], a, b))

    def weight(self, kind, most):
        if kind[0] < 2:
            return 1
        greater = max(self.weight(kind[1], most), self.weight(kind[2], most))
        if kind[0] < 4:
            return greater
        return greater * len(spelled(kind[1], self.sizes[0], most)) * len(spelled(kind[1], self.sizes[1], most))

    def both_sides(self, kind, most, heaviest):
        found = [spelled(kind, self.sizes[side], most) for side in (0, 1)]
        if self.weight(kind, most) > heaviest:
            raise Refused([-8])
        return found

    def related(self, x, y, kind):
        on_left, on_right = self.both_sides(kind, 256, 1000000)
        if x >= len(on_left) or y >= len(on_right):
            raise Refused([-1])
        return [int(self.are_related(kind, on_left[x], on_right[y]))]

    def count(self, kind):
        on_left, on_right = self.both_sides(kind, 32, 4096)
        found = [(x, y) for x in range(len(on_left)) for y in range(len(on_right))
                 if self.are_related(kind, on_left[x], on_right[y])]
        return [len(found)] + list(found[0] if found else ())

    def kept(self, kind):
        lefts = self.sizes[0]
        if any(n > 2 for n in lefts) or sum(n * n for n in lefts) > 8:
            raise Refused([-3])
        mine = SlowHouse([lefts, lefts], [])
        found, same = mine.both_sides(kind, 32, 4096)
        numbers = list(range(len(found)))
        every = [(i, a, b) for i, n in enumerate(lefts) for a in range(n) for b in range(n)]
        for chosen in itertools.product((False, True), repeat=len(every)):
            mine.pairs = [pair for pair, taken in zip(every, chosen) if taken]
            numbers = [x for x in numbers if mine.are_related(kind, found[x], found[x])]
        return [len(numbers)] + numbers

    def meaning(self, side, term):
        kind = TypeCheck(self.sizes[side]).typed(term, [])
        if self.term_weight(term, side) > 65536:
            raise Refused([-8])
        found = spelled(kind, self.sizes[side], 256)
        return [found.index(self.meant(term, [], side))] + type_row(kind)

    def term_weight(self, term, side):
        weights = [self.term_weight(part, side) for part in term[2]]
        if term[0] == 7:
            return len(spelled(term[1], self.sizes[side], 256)) * weights[0]
        return max(weights) if weights else 1

    def meant(self, term, known, side):
        """What a term means; known: what the variables are, the nearest first."""
        head, told, parts = term
        if head == 7:
            return tuple((x, self.meant(parts[0], [x] + known, side))
                         for x in spelled(told, self.sizes[side], 256))
        if head == 0:
            return known[told]
        if head in (9, 10):
            return "yes" if head == 9 else "no"
        means = [self.meant(part, known, side) for part in parts]
        if head in (1, 2, 3, 4, 5):
            return {1: lambda: tuple(means), 2: lambda: means[0][0], 3: lambda: means[0][1],
                    4: lambda: ("left", means[0]), 5: lambda: ("right", means[0])}[head]()
        if head == 6:
            return dict(means[1 if means[0][0] == "left" else 2])[means[0][1]]
        if head == 8:
            return dict(means[0])[means[1]]
        return means[1] if means[0] == "yes" else means[2]


class TypeCheck:
    """Goes through a term's parts; faults are told at once, types that are too large at the end."""

    def __init__(self, sizes):
        self.sizes = sizes

    def typed(self, term, around):
        self.number = 0
        self.seen = []
        kind = self.part(term, around)
        for one in self.seen:
            spelled(one, self.sizes, 256)
        return kind

    def part(self, term, around):
        number = self.number
        self.number += 1
        head, told, parts = term
        inner = [told] + around if head == 7 else around
        kinds = [self.part(part, inner) for part in parts]
        kind = self.rule(number, head, told, kinds, around)
        self.seen.append(kind)
        return kind

    def rule(self, number, head, told, kinds, around):
        def fault(which, wrong):
            if wrong:
                raise Refused([-7, number, which])

        fault(1, head == 0 and told >= len(around))
        wanted = {2: (2,), 3: (2,), 6: (3, 4, 4), 8: (4,), 11: (1,)}.get(head, ())
        fault(2, any(kind[0] != want for kind, want in zip(kinds, wanted)))
        if head == 6:
            fault(3, (kinds[1][1], kinds[2][1], kinds[1][2]) != (kinds[0][1], kinds[0][2], kinds[2][2]))
            return kinds[1][2]
        if head == 8:
            fault(3, kinds[0][1] != kinds[1])
            return kinds[0][2]
        if head == 11:
            fault(3, kinds[1] != kinds[2])
            return kinds[1]
        if head in (2, 3):
            return kinds[0][head - 1]
        return {0: lambda: around[told], 1: lambda: (2, *kinds), 4: lambda: (3, kinds[0], told),
                5: lambda: (3, told, kinds[0]), 7: lambda: (4, told, kinds[0])}.get(head, lambda: (1,))()


def term_row(term):
    head, told, parts = term
    row = [head]
    if head == 0:
        row.append(told)
    elif told is not None:
        row += type_row(told)
    for part in parts:
        row += term_row(part)
    return row


class Maker:
    """Makes types and terms by chance, the same ones in every run."""

    def __init__(self, seed, variables):
        self.chance = random.Random(seed)
        self.variables = variables

    def kind(self, depth):
        if depth == 1 or self.chance.random() < 0.3:
            return self.chance.choice([(1,)] + [(0, i) for i in range(self.variables)])
        return (self.chance.choice((2, 3, 4, 4)), self.kind(depth - 1), self.kind(depth - 1))

    def any_term(self, depth, around):
        """A term that need not be without a fault."""
        head = self.chance.choice((0, 9, 10) if depth == 1 else tuple(range(12)))
        told = None
        if head == 0:
            told = self.chance.randrange(around + 1) if self.chance.random() < 0.1 else self.chance.randrange(
                max(around, 1))
        elif head in (4, 5, 7):
            told = self.kind(2)
        inner = around + 1 if head == 7 else around
        return (head, told, [self.any_term(depth - 1, inner) for turn in range(OWN_PARTS[head])])

    def closed_term(self, kind, depth):
        """A term of that type and of at most that depth, or None if none was found soon."""
        self.tries = 300
        return self.term(kind, [], depth)

    def marred(self, term):
        """The term with one part changed by chance; most are at fault then."""
        head, told, parts = term
        if not parts or self.chance.random() < 0.2:
            return self.any_term(2, 1)
        if told is not None and self.chance.random() < 0.3:
            return (head, self.kind(2), parts)
        place = self.chance.randrange(len(parts))
        return (head, told, parts[:place] + [self.marred(parts[place])] + parts[place + 1:])

    def term(self, kind, around, depth):
        """A term of that type, or None if none was found; around: the variables' types, the nearest first."""
        self.tries -= 1
        if self.tries < 0:
            return None
        ways = [self.plainly] * 3 + [self.roundabout] * (2 if depth > 1 else 0)
        self.chance.shuffle(ways)
        for way in ways:
            found = way(kind, around, depth)
            if found is not None:
                return found
        return None

    def plainly(self, kind, around, depth):
        fitting = [i for i, one in enumerate(around) if one == kind]
        if fitting and (depth <= 1 or self.chance.random() < 0.5):
            return (0, self.chance.choice(fitting), [])
        if kind[0] == 1:
            return (self.chance.choice((9, 10)), None, [])
        if kind[0] == 0 or depth <= 1:
            return None
        if kind[0] == 2:
            return self.of_parts(1, None, [(kind[1], around), (kind[2], around)], depth)
        if kind[0] == 3:
            on_left = self.chance.random() < 0.5
            told, taken = (kind[2], kind[1]) if on_left else (kind[1], kind[2])
            return self.of_parts(4 if on_left else 5, told, [(taken, around)], depth)
        return self.of_parts(7, kind[1], [(kind[2], [kind[1]] + around)], depth)

    def roundabout(self, kind, around, depth):
        other, third = self.kind(2), self.kind(2)
        head = self.chance.choice((2, 3, 6, 8, 8, 11))
        wanted = {2: [(2, kind, other)], 3: [(2, other, kind)], 8: [(4, other, kind), other],
                  6: [(3, other, third), (4, other, kind), (4, third, kind)], 11: [(1,), kind, kind]}[head]
        if self.chance.random() < 0.5 and around:
            return self.by_variable(kind, around, depth)
        return self.of_parts(head, None, [(one, around) for one in wanted], depth)

    def by_variable(self, kind, around, depth):
        for number, one in enumerate(around):
            if one[0] == 4 and one[2] == kind:
                argument = self.term(one[1], around, depth - 1)
                return None if argument is None else (8, None, [(0, number, []), argument])
            if one[0] == 2 and kind in one[1:]:
                return (2 if one[1] == kind else 3, None, [(0, number, [])])
        return None

    def of_parts(self, head, told, wanted, depth):
        parts = []
        for kind, around in wanted:
            parts.append(self.term(kind, around, depth - 1))
            if parts[-1] is None:
                return None
        return (head, told, parts)

    def sizes(self):
        return [[self.chance.choice((0, 1, 1, 2, 2, 3)) for i in range(self.variables)] for side in (0, 1)]

    def pairs(self, sizes):
        likely = self.chance.random()
        return [(i, x, y) for i in range(self.variables) for x in range(sizes[0][i]) for y in range(sizes[1][i])
                if self.chance.random() < likely]


def start_of(sizes, pairs):
    calls = [begin(len(sizes[0]))]
    calls += [sets(i, n, m) for i, (n, m) in enumerate(zip(*sizes))]
    return calls + [relate(i, x, y) for i, x, y in pairs]


def answer_of(asked, *given):
    try:
        return asked(*given)
    except Refused as refused:
        return refused.args[0]


class BruteForce(unittest.TestCase):
    def each(self, seeds):
        for seed in range(seeds):
            maker = Maker(seed, 1 + seed % 3)
            sizes = maker.sizes()
            pairs = maker.pairs(sizes)
            yield maker, SlowHouse(sizes, pairs), start_of(sizes, pairs), pairs

    def test_related(self):
        told = [0, 0, 0]
        for maker, slow, start, pairs in self.each(250):
            kind = maker.kind(maker.chance.choice((2, 3, 3, 4)))
            lefts, rights = tell(*start, size(0, type_row(kind)), size(1, type_row(kind)))[-2:]
            tries = [(maker.chance.randrange(max(lefts[0], 1) + 1), maker.chance.randrange(max(rights[0], 1) + 1))
                     for turn in range(8)]
            found = tell(*start, *[related(x, y, type_row(kind)) for x, y in tries])[-8:]
            for (x, y), answer in zip(tries, found):
                self.assertEqual(answer, answer_of(slow.related, x, y, kind), (kind, x, y, slow.sizes, pairs))
                told[min(answer[0], 1) if answer[0] >= 0 else 2] += 1
        self.assertGreater(min(told), 100)

    def test_count(self):
        lengths = [0, 0, 0]
        for maker, slow, start, pairs in self.each(400):
            kind = maker.kind(maker.chance.choice((2, 3, 3, 4)))
            found = last(*start, count(type_row(kind)))
            self.assertEqual(found, answer_of(slow.count, kind), (kind, slow.sizes, pairs))
            lengths[2 if found == [-8] else int(len(found) == 3)] += 1
        self.assertGreater(min(lengths), 20)

    def test_kept(self):
        many = {}
        for maker, slow, start, pairs in self.each(400):
            kind = maker.kind(maker.chance.choice((2, 3, 3)))
            if sum(n * n for n in slow.sizes[0]) > 5 and type_depth(kind) > 2 and maker.chance.random() < 0.8:
                continue
            found = last(*start, kept(type_row(kind)))
            self.assertEqual(found, answer_of(slow.kept, kind), (kind, slow.sizes))
            many[found[0]] = many.get(found[0], 0) + 1
        self.assertTrue({-8, -3, 0, 1, 2, 3, 4} <= set(many), many)

    def test_meaning_of_terms_without_a_fault(self):
        heads = {}
        told = 0
        for maker, slow, start, pairs in self.each(2500):
            kind = maker.kind(3)
            term = maker.closed_term(kind, 7)
            if term is None or len(term_row(term)) > 100:
                continue
            row = term_row(term)
            found = tell(*start, meaning(0, row), meaning(1, row))[-2:]
            for side in (0, 1):
                self.assertEqual(found[side], answer_of(slow.meaning, side, term), (term, slow.sizes, side))
            if found[0][0] >= 0 and found[1][0] >= 0:
                told += 1
                self.assertEqual(found[0][1:], type_row(kind))
                self.related_and_kept(start, row, kind, found)
            self.tally(term, heads)
        self.assertGreater(told, 400)
        self.assertEqual(sorted(heads), list(range(12)))

    def related_and_kept(self, start, row, kind, found):
        """What the document says of all terms: their meanings are related, and kept."""
        answers = tell(*start, related(found[0][0], found[1][0], type_row(kind)), kept(type_row(kind)))[-2:]
        self.assertIn(answers[0], ([1], [-8]), row)
        if answers[1][0] >= 0:
            self.assertIn(found[0][0], answers[1][1:], row)

    def tally(self, term, heads):
        heads[term[0]] = heads.get(term[0], 0) + 1
        for part in term[2]:
            self.tally(part, heads)

    def test_meaning_of_any_terms(self):
        faults = {}
        for maker, slow, start, pairs in self.each(3000):
            term = maker.any_term(maker.chance.choice((2, 3, 4, 5)), 0)
            right_one = maker.closed_term(maker.kind(3), 6)
            if right_one is not None and maker.chance.random() < 0.8:
                term = maker.marred(right_one)
            row = term_row(term)
            if len(row) > 100:
                continue
            found = last(*start, meaning(0, row))
            self.assertEqual(found, answer_of(slow.meaning, 0, term), (term, slow.sizes))
            key = found[0] if found[0] != -7 else ("fault", found[2], found[1] > 0)
            faults[key] = faults.get(key, 0) + 1
        for wanted in [("fault", which, deeper) for which in (1, 2, 3) for deeper in (False, True)]:
            self.assertGreater(faults.get(wanted, 0), 10, faults)


class EachRelatedToItselfAlone(unittest.TestCase):
    def test_count_answers_as_many_as_there_are(self):
        counted = 0
        for seed in range(300):
            maker = Maker(seed, 1 + seed % 3)
            lefts = maker.sizes()[0]
            start = start_of([lefts, lefts], [(i, x, x) for i, n in enumerate(lefts) for x in range(n)])
            kind = maker.kind(4)
            many, found = tell(*start, size(0, type_row(kind)), count(type_row(kind)))[-2:]
            if found == [-8]:
                continue
            counted += 1
            self.assertEqual(found, many + ([0, 0] if many[0] > 0 else []), (kind, lefts))
        self.assertGreater(counted, 100)


if __name__ == "__main__":
    unittest.main()
