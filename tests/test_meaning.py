import unittest

from tests.calls import (BIGGEST, NO, TWO, YES, ask_if, begin, both, cases, either, first, function, last, left,
                         meaning, pair, probe, put, relate, right, second, sets, taking, tell, use, var)

FOUR = pair(TWO, TWO)
OF_256 = function(FOUR, FOUR)
OF_257 = either(OF_256, var(0))
SAME = taking(FOUR, use(0))
NEGATION = taking(TWO, ask_if(use(0), NO, YES))


def nested(depth):
    """A type of just that depth that has 2 elements while type variable 0 has a set of one."""
    row = TWO
    for level in range(depth - 1):
        row = function(var(0), row)
    return row


def as_functions(types, body):
    """The body within functions that take these types, the first of them outermost."""
    for one in reversed(types):
        body = taking(one, body)
    return body


class Meaning(unittest.TestCase):
    def means(self, row, number, kind, *before):
        """The term means that number of that type, on the left."""
        self.assertEqual(last(*before, meaning(0, row)), [number] + kind)

    def on_both(self, row, on_left, on_right, kind, *before):
        found = tell(*before, meaning(0, row), meaning(1, row))[-2:]
        self.assertEqual(found, [[on_left] + kind, [on_right] + kind])


class EachKindOfTerm(Meaning):
    def test_yes_and_no(self):
        self.on_both(YES, 1, 1, TWO)
        self.on_both(NO, 0, 0, TWO)

    def test_pair(self):
        for number, (a, b) in enumerate(((NO, NO), (NO, YES), (YES, NO), (YES, YES))):
            self.on_both(both(a, b), number, number, FOUR)

    def test_first_and_second(self):
        self.means(first(both(YES, NO)), 1, TWO)
        self.means(first(both(NO, YES)), 0, TWO)
        self.means(second(both(YES, NO)), 0, TWO)
        self.means(second(both(NO, YES)), 1, TWO)
        # Sides of unlike types: 3 of 4 elements is both yes.
        self.means(first(both(both(YES, YES), NO)), 3, FOUR)
        self.means(second(both(NO, both(YES, NO))), 2, FOUR)
        self.means(first(second(both(NO, both(YES, NO)))), 1, TWO)

    def test_left_and_right(self):
        self.on_both(left(var(0), NO), 0, 0, either(TWO, var(0)), sets(0, 3, 2))
        self.on_both(left(var(0), YES), 1, 1, either(TWO, var(0)), sets(0, 3, 2))
        self.on_both(right(var(0), NO), 3, 2, either(var(0), TWO), sets(0, 3, 2))
        self.on_both(right(var(0), YES), 4, 3, either(var(0), TWO), sets(0, 3, 2))

    def test_cases(self):
        for_left, for_right = NEGATION, taking(FOUR, first(use(0)))
        for chosen, number in ((left(FOUR, NO), 1), (left(FOUR, YES), 0), (right(TWO, both(NO, YES)), 0),
                               (right(TWO, both(YES, NO)), 1)):
            self.means(cases(chosen, for_left, for_right), number, TWO)

    def test_cases_of_a_variable(self):
        # Left no: 3, left yes: 2, right no: 0, right yes: 1.
        row = taking(either(TWO, TWO), cases(use(0), taking(TWO, both(YES, ask_if(use(0), NO, YES))),
                                             taking(TWO, both(NO, use(0)))))
        self.means(row, 3 + 2 * 4 + 0 * 16 + 1 * 64, function(either(TWO, TWO), FOUR))

    def test_cases_with_a_left_set_of_none(self):
        row = cases(right(var(0), YES), taking(var(0), YES), taking(TWO, ask_if(use(0), NO, YES)))
        self.on_both(row, 0, 0, TWO, sets(0, 0, 3))

    def test_function(self):
        self.means(taking(TWO, YES), 3, function(TWO, TWO))
        self.means(taking(TWO, NO), 0, function(TWO, TWO))
        self.means(taking(TWO, use(0)), 2, function(TWO, TWO))

    def test_put_to(self):
        self.means(put(NEGATION, YES), 0, TWO)
        self.means(put(NEGATION, NO), 1, TWO)
        self.means(put(SAME, both(YES, NO)), 2, FOUR)
        # The function that goes from an element to the one of the four that is 1 less, and from 0 to 3.
        before = taking(FOUR, ask_if(second(use(0)), both(first(use(0)), NO),
                                     both(ask_if(first(use(0)), NO, YES), YES)))
        for number, term in enumerate((both(NO, NO), both(NO, YES), both(YES, NO), both(YES, YES))):
            self.means(put(before, term), (number - 1) % 4, FOUR)

    def test_if(self):
        self.means(ask_if(YES, both(YES, NO), both(NO, YES)), 2, FOUR)
        self.means(ask_if(NO, both(YES, NO), both(NO, YES)), 1, FOUR)


class Numbers(Meaning):
    def test_what_a_function_has_for_0_counts_least(self):
        self.means(NEGATION, 1, function(TWO, TWO))
        self.means(SAME, 0 + 1 * 4 + 2 * 16 + 3 * 64, OF_256)

    def test_functions_over_unlike_sets(self):
        self.on_both(taking(var(0), use(0)), 0 + 1 * 3 + 2 * 9, 0 + 1 * 2, function(var(0), var(0)), sets(0, 3, 2))

    def test_pairs_over_unlike_sets(self):
        kind = function(var(0), pair(var(0), TWO))
        self.on_both(taking(var(0), both(use(0), YES)), 1 + 3 * 4, 1 + 3 * 6 + 5 * 36, kind, sets(0, 2, 3))
        kind = function(var(0), pair(TWO, var(0)))
        self.on_both(taking(var(0), both(YES, use(0))), 2 + 3 * 4, 3 + 4 * 6 + 5 * 36, kind, sets(0, 2, 3))

    def test_sides_of_a_pair_over_unlike_sets(self):
        before = (begin(2), sets(0, 2, 1), sets(1, 1, 3))
        kind = pair(var(0), var(1))
        self.on_both(taking(kind, first(use(0))), 0 + 1 * 2, 0, function(kind, var(0)), *before)
        self.on_both(taking(kind, second(use(0))), 0, 0 + 1 * 3 + 2 * 9, function(kind, var(1)), *before)

    def test_either_over_unlike_sets(self):
        kind = function(var(0), either(var(0), TWO))
        self.on_both(taking(var(0), left(TWO, use(0))), 0 + 1 * 4, 0 + 1 * 5 + 2 * 25, kind, sets(0, 2, 3))
        kind = function(var(0), either(TWO, var(0)))
        self.on_both(taking(var(0), right(TWO, use(0))), 2 + 3 * 4, 2 + 3 * 5 + 4 * 25, kind, sets(0, 2, 3))

    def test_cases_over_unlike_sets(self):
        kind = either(var(0), TWO)
        row = taking(kind, cases(use(0), taking(var(0), NO), taking(TWO, YES)))
        self.on_both(row, 4 + 8, 8 + 16, function(kind, TWO), sets(0, 2, 3))

    def test_functions_in_functions(self):
        kind = function(TWO, function(TWO, TWO))
        self.means(as_functions([TWO, TWO], use(0)), 2 + 2 * 4, kind)
        self.means(as_functions([TWO, TWO], use(1)), 0 + 3 * 4, kind)

    def test_functions_that_take_functions(self):
        # The four functions are: always no, negation, sameness, always yes.
        taken = function(TWO, TWO)
        self.means(taking(taken, put(use(0), NO)), 0 + 1 * 2 + 0 * 4 + 1 * 8, function(taken, TWO))
        self.means(taking(taken, put(use(0), YES)), 0 + 0 * 2 + 1 * 4 + 1 * 8, function(taken, TWO))
        twice = taking(taken, taking(TWO, put(use(1), put(use(1), use(0)))))
        self.means(twice, 0 + 2 * 4 + 2 * 16 + 3 * 64, function(taken, taken))

    def test_outer_variables(self):
        row = as_functions([TWO, TWO, TWO], use(2))
        self.means(row, 0 + 15 * 16, function(TWO, function(TWO, function(TWO, TWO))))
        row = as_functions([TWO, TWO, TWO], use(1))
        self.means(row, 12 + 12 * 16, function(TWO, function(TWO, function(TWO, TWO))))
        row = as_functions([var(0), TWO], both(use(0), use(1)))
        # No and the variable: itself; yes and the variable: 1 and itself, over a set of one.
        self.means(row, 0 + 1 * 2, function(var(0), function(TWO, pair(TWO, var(0)))))

    def test_outer_variable_within_what_is_put(self):
        row = taking(TWO, put(taking(TWO, ask_if(use(0), use(1), YES)), ask_if(use(0), YES, NO)))
        self.means(row, 1 + 1 * 2, function(TWO, TWO))
        row = taking(TWO, put(taking(TWO, both(use(0), use(1))), NO))
        self.means(row, 0 + 1 * 4, function(TWO, FOUR))

    def test_outer_variable_in_cases(self):
        kind = either(TWO, TWO)
        row = as_functions([TWO, kind], cases(use(0), taking(TWO, use(2)), taking(TWO, use(0))))
        # With no outside: no, no, no, yes; with yes outside: yes, yes, no, yes.
        self.means(row, 8 + 11 * 16, function(TWO, function(kind, TWO)))


class SetsOfNone(Meaning):
    def test_functions_from_none(self):
        self.means(taking(var(0), YES), 0, function(var(0), TWO), sets(0, 0, 1))
        self.means(taking(var(0), use(0)), 0, function(var(0), var(0)), sets(0, 0, 1))
        self.means(taking(pair(TWO, var(0)), first(use(0))), 0, function(pair(TWO, var(0)), TWO), sets(0, 0, 1))

    def test_functions_to_none(self):
        taken = function(TWO, var(0))
        self.means(taking(taken, put(use(0), YES)), 0, function(taken, var(0)), sets(0, 0, 1))

    def test_functions_from_none_within_others(self):
        before = sets(0, 0, 1)
        self.means(both(taking(var(0), YES), YES), 1, pair(function(var(0), TWO), TWO), before)
        self.means(both(YES, taking(var(0), YES)), 1, pair(TWO, function(var(0), TWO)), before)
        self.means(taking(TWO, taking(var(0), use(1))), 0, function(TWO, function(var(0), TWO)), before)
        # From the one function from none to yes: two has 2, so that's 1.
        self.means(taking(function(var(0), var(0)), YES), 1, function(function(var(0), var(0)), TWO), before)
        self.means(put(taking(function(var(0), var(0)), YES), taking(var(0), use(0))), 1, TWO, before)

    def test_left_beside_none(self):
        self.means(left(var(0), YES), 1, either(TWO, var(0)), sets(0, 0, 1))
        self.means(right(var(0), YES), 1, either(var(0), TWO), sets(0, 0, 1))


class TypesRow(Meaning):
    def test_each_side_has_its_number_and_the_same_row(self):
        row = as_functions([var(1), var(0), var(2)], both(use(1), both(use(2), use(0))))
        kind = function(var(1), function(var(0), function(var(2), pair(var(0), pair(var(1), var(2))))))
        found = tell(begin(3), sets(0, 1, 2), meaning(0, row), meaning(1, row))
        self.assertEqual(found[2:], [[0] + kind, [0 + 1 * 2] + kind])

    def test_deeper_than_a_type_may_be_handed_in(self):
        row, kind = YES, TWO
        for level in range(19):
            row, kind = left(TWO, row), either(kind, TWO)
        self.means(row, 1, kind)
        row, kind = YES, TWO
        for level in range(19):
            row, kind = right(TWO, row), either(TWO, kind)
        self.means(row, 39, kind)

    def test_longer_than_the_term(self):
        long_type = pair(pair(pair(var(0), var(0)), pair(var(0), var(0))), pair(var(0), var(0)))
        row, kind = use(0), long_type
        for level in range(17):
            row, kind = both(use(0), row), pair(long_type, kind)
        self.means(taking(long_type, row), 0, function(long_type, kind))


class TooLarge(Meaning):
    def refused(self, row, *before):
        self.assertEqual(last(*before, meaning(0, row)), [-8], row)

    def test_256_and_257(self):
        self.means(SAME, 228, OF_256)
        self.refused(left(var(0), SAME))
        self.refused(right(var(0), SAME))
        self.means(left(var(0), SAME), 228, OF_257, sets(0, 0, 0))

    def test_a_part_that_the_terms_own_is_not(self):
        self.refused(second(both(left(var(0), SAME), YES)))
        self.refused(second(both(SAME, YES)))
        self.refused(first(both(YES, SAME)))
        self.refused(put(taking(OF_256, YES), SAME))
        self.refused(cases(left(OF_257, YES), taking(TWO, YES), taking(OF_257, NO)))

    def test_a_part_that_is_small_with_a_large_one_in_it(self):
        emptied = pair(OF_257, var(1))
        self.refused(first(both(YES, taking(emptied, use(0)))), begin(2), sets(1, 0, 0))
        self.refused(first(both(YES, left(emptied, NO))), begin(2), sets(1, 0, 0))

    def test_an_argument(self):
        self.means(as_functions([var(0), OF_256], use(1)), 0, function(var(0), function(OF_256, var(0))))
        self.refused(as_functions([var(0), OF_257], use(1)))
        self.refused(as_functions([var(0), OF_257], use(0)))

    def test_a_part_that_is_not_come_to(self):
        self.refused(ask_if(YES, YES, second(both(SAME, NO))))
        self.refused(taking(var(0), second(both(SAME, YES))), sets(0, 0, 0))

    def test_each_side_by_itself(self):
        kind = function(either(var(0), var(0)), var(0))
        row = taking(kind, use(0))
        small = taking(function(var(0), TWO), YES)
        self.assertEqual(tell(sets(0, 3, 1), meaning(0, row), meaning(1, row), meaning(0, small), meaning(1, small)),
                         [[0], [-8], [0] + function(kind, kind), [255] + function(function(var(0), TWO), TWO),
                          [3] + function(function(var(0), TWO), TWO)])
        self.assertEqual(tell(sets(0, 1, 3), meaning(0, row), meaning(1, row))[1:],
                         [[0] + function(kind, kind), [-8]])


class Weights(Meaning):
    def in_all(self, types, *before):
        """What a term answers that takes an element of type variable 0, then these types, to that element."""
        row = as_functions([var(0)] + types, use(len(types)))
        return last(*before, meaning(0, row))[0]

    def test_65536_and_above(self):
        self.assertEqual(self.in_all([OF_256, OF_256]), 0)
        self.assertEqual(self.in_all([OF_256, OF_256, var(0)]), 0)
        self.assertEqual(self.in_all([OF_256, OF_256, TWO]), -8)
        self.assertEqual(self.in_all([OF_256, OF_256, OF_256, OF_256]), -8)

    def test_just_above(self):
        before = (begin(2), sets(1, 3, 3))
        of_243 = function(either(var(1), TWO), var(1))
        of_27 = function(var(1), var(1))
        self.assertEqual(self.in_all([of_243, of_27, pair(var(1), var(1))], *before), 0)
        of_10 = pair(TWO, either(var(1), TWO))
        self.assertEqual(243 * 27 * 10, 65610)
        self.assertEqual(self.in_all([of_243, of_27, of_10], *before), -8)

    def test_in_one_another_multiplied_whatever_is_between(self):
        heavy = as_functions([OF_256, OF_256], use(2))
        for between in (heavy, first(both(heavy, YES)), ask_if(YES, heavy, heavy), second(both(heavy, heavy))):
            self.assertEqual(last(meaning(0, taking(var(0), between)))[0], 0)
            row = taking(TWO, second(both(taking(var(0), between), YES)))
            self.assertEqual(last(meaning(0, row)), [-8], row)

    def test_side_by_side_the_greatest(self):
        heavy = taking(var(0), as_functions([OF_256, OF_256], use(2)))
        self.assertEqual(last(meaning(0, both(heavy, both(heavy, heavy))))[0], 0)
        self.assertEqual(last(meaning(0, ask_if(NO, heavy, heavy)))[0], 0)
        for one in (both(heavy, YES), both(YES, heavy)):
            self.assertEqual(last(meaning(0, taking(TWO, one))), [-8])
        self.assertEqual(last(meaning(0, taking(TWO, ask_if(use(0), heavy, heavy)))), [-8])

    def test_what_is_put_is_side_by_side(self):
        # Each function takes 256, and what's put to it is another function of 256.
        row = put(taking(function(var(0), function(OF_256, var(0))), as_functions([OF_256], YES)),
                  as_functions([var(0), OF_256], use(1)))
        self.assertEqual(last(meaning(0, row)), [-8])
        row = put(taking(function(var(0), function(OF_256, var(0))), as_functions([var(0), OF_256], use(1))),
                  as_functions([var(0), OF_256], use(1)))
        self.assertEqual(last(meaning(0, row)), [0] + function(var(0), function(OF_256, var(0))))

    def test_a_set_of_none(self):
        before = (begin(2), sets(1, 0, 0))
        self.assertEqual(self.in_all([OF_256, OF_256, OF_256, var(1)], *before), 0)
        self.assertEqual(self.in_all([OF_256] * 6 + [var(1)], *before), 0)
        self.assertEqual(self.in_all([var(1), OF_256, OF_256, OF_256], *before), 0)
        self.assertEqual(self.in_all([OF_256, var(1), OF_256, OF_256], *before), 0)

    def test_a_set_of_none_beside_another(self):
        before = (begin(2), sets(1, 0, 0))
        light = as_functions([var(1), OF_256], use(4))
        row = as_functions([var(0), OF_256, OF_256], second(both(light, use(2))))
        self.assertEqual(last(*before, meaning(0, row))[0], 0)
        light = as_functions([var(1), OF_256], use(5))
        row = as_functions([var(0), OF_256, OF_256, TWO], second(both(light, light)))
        self.assertEqual(last(*before, meaning(0, row))[0], 0)
        row = as_functions([var(0), OF_256, OF_256, TWO], second(both(light, use(3))))
        self.assertEqual(last(*before, meaning(0, row)), [-8])

    def test_many_functions_of_weight_0(self):
        # One of two that weighs nothing, within 5 functions that take 7 each.
        before = (begin(3), sets(0, 0, 0), sets(2, 3, 3))
        seven = either(FOUR, var(2))
        one_of_two = left(var(1), taking(var(0), YES))
        row = one_of_two
        for layer in range(5):
            row = second(both(taking(seven, row), one_of_two))
        self.means(row, 0, either(function(var(0), TWO), var(1)), *before)

    def test_each_side_by_itself(self):
        kind = function(var(0), either(var(0), TWO))
        one = function(TWO, TWO)
        row = second(both(as_functions([kind, kind, one, one], taking(var(1), use(0))), YES))
        # The left: 125 * 125 * 4 * 4 * 1; the right: 16 * 16 * 4 * 4.
        self.assertEqual(tell(begin(2), sets(0, 3, 2), meaning(0, row), meaning(1, row))[2:], [[-8], [1] + TWO])


class Unfit(Meaning):
    def refused(self, row, *before):
        found = tell(*before, meaning(0, row), meaning(1, row), meaning(0, YES))[len(before):]
        self.assertEqual(found, [[-1], [-1], [1, 1]], row)

    def test_empty(self):
        self.refused([])

    def test_ends_too_soon(self):
        whole = cases(left(pair(TWO, var(0)), YES), taking(TWO, both(use(0), NO)),
                      taking(pair(TWO, var(0)), put(taking(TWO, both(first(use(1)), second(both(YES, use(0))))),
                                                    ask_if(YES, NO, YES))))
        self.assertEqual(last(meaning(0, whole)), [2] + FOUR)
        for length in range(len(whole)):
            with self.subTest(length=length):
                self.refused(whole[:length])

    def test_numbers_left_over(self):
        for row in (YES, NO, use(0), both(YES, NO), taking(TWO, use(0)), left(TWO, YES), ask_if(YES, NO, NO)):
            for more in ([0], [1], [9], [BIGGEST], YES * 20):
                with self.subTest(row=row, more=more):
                    self.refused(row + more)

    def test_number_that_begins_no_term(self):
        for head in (12, 13, 100, BIGGEST):
            for row in ([head], [head, 9], both([head], YES), both(YES, [head]), taking(TWO, [head]),
                        ask_if(YES, NO, [head]), cases([head], YES, YES)):
                with self.subTest(row=row):
                    self.refused(row)

    def test_number_that_begins_no_type(self):
        for head in (5, 9, BIGGEST):
            for row in (taking([head], YES), left([head], YES), right(pair(TWO, [head]), YES)):
                with self.subTest(row=row):
                    self.refused(row)

    def test_type_variable_that_is_not_there(self):
        for k in (1, 2, 3):
            for i in (k, BIGGEST):
                for row in (taking(var(i), YES), left(var(i), YES), right(var(i), YES),
                            both(YES, taking(function(TWO, var(i)), NO)), taking(TWO, left(pair(var(i), TWO), NO))):
                    with self.subTest(k=k, row=row):
                        self.refused(row, begin(k))
        self.assertEqual(last(begin(3), meaning(0, left(var(2), YES))), [1] + either(TWO, var(2)))

    def test_a_terms_variable_may_be_any_number(self):
        self.assertEqual(last(meaning(0, use(BIGGEST))), [-7, 0, 1])

    def test_20_deep_and_21(self):
        self.assertEqual(last(meaning(0, first([2] * 18 + YES))), [-7, 18, 2])
        self.refused([2] * 20 + YES)
        self.refused([2] * 99 + YES)
        row = YES
        for level in range(19):
            row = left(var(0), row)
        self.assertEqual(last(sets(0, 0, 0), meaning(0, row))[0], 1)
        self.refused(left(var(0), row), sets(0, 0, 0))

    def test_20_deep_and_21_by_each_part(self):
        makers = [lambda t: both(t, YES), lambda t: both(YES, t), first, second, lambda t: left(TWO, t),
                  lambda t: right(TWO, t), lambda t: cases(t, YES, YES), lambda t: cases(YES, t, YES),
                  lambda t: cases(YES, YES, t), lambda t: taking(TWO, t), lambda t: put(t, YES),
                  lambda t: put(YES, t), lambda t: ask_if(t, YES, YES), lambda t: ask_if(YES, t, YES),
                  lambda t: ask_if(YES, YES, t)]
        for number, maker in enumerate(makers):
            for leaf in (YES, NO, use(0)):
                # Three levels of each kind, in a row of firsts for the rest.
                row = maker(maker(maker(leaf)))
                with self.subTest(number=number, leaf=leaf):
                    self.assertNotEqual(last(meaning(0, [2] * 16 + row)), [-1])
                    self.refused([2] * 17 + row)

    def test_second_part_too_deep_behind_a_shallow_first(self):
        self.assertNotEqual(last(meaning(0, both(NO, [2] * 18 + YES))), [-1])
        self.refused(both(NO, [2] * 19 + YES))
        self.refused(both([2] * 19 + YES, NO))

    def test_types_6_deep_and_7(self):
        for made in (taking, left, right):
            with self.subTest(made=made.__name__):
                self.assertNotIn(last(meaning(0, made(nested(6), YES)))[0], (-1, -7, -8))
                self.refused(made(nested(7), YES))
                self.refused(made(nested(20), YES))

    def test_types_by_themselves_wherever_they_stand(self):
        for levels in (1, 5, 18):
            for made in (taking, left, right):
                with self.subTest(levels=levels, made=made.__name__):
                    self.assertNotEqual(last(meaning(0, [2] * levels + made(nested(6), YES))), [-1])
                    self.refused([2] * levels + made(nested(7), YES))
        self.assertNotEqual(last(meaning(0, taking(nested(6), taking(nested(6), left(nested(6), use(1)))))), [-1])
        self.refused(taking(nested(6), taking(nested(6), left(nested(7), use(1)))))

    def test_a_types_depth_does_not_count_for_the_terms(self):
        row = taking(nested(6), YES)
        self.assertNotEqual(last(meaning(0, [2] * 18 + row)), [-1])
        self.refused([2] * 19 + row)

    def test_100_numbers(self):
        for row in ([7] * 100, [1] * 100, [8] * 99 + YES, [0] * 100, [11] * 100, [BIGGEST] * 100, YES * 100):
            with self.subTest(row=row):
                self.refused(row)

    def test_no_such_side(self):
        for side in (2, 3, BIGGEST):
            for row in (YES, SAME, [], use(0), left(var(0), SAME)):
                with self.subTest(side=side, row=row):
                    self.assertEqual(tell(meaning(side, row), meaning(1, YES)), [[-1], [1, 1]])


class FirstRefusal(Meaning):
    def refused(self, row, answer, *before):
        self.assertEqual(last(*before, meaning(0, row)), answer, row)

    def test_row_before_fault(self):
        self.refused(use(0) + [9], [-1])
        self.refused(both(first(YES), [12]), [-1])
        self.refused(both(use(0), left(var(1), YES)), [-1])
        self.refused(both(first(YES), left(nested(7), YES)), [-1])
        self.refused(both(first(YES), [2] * 19 + YES), [-1])
        self.refused(ask_if(YES, first(YES), [])[:-1], [-1])

    def test_side_before_fault_and_too_large(self):
        self.assertEqual(tell(meaning(2, use(0)), meaning(2, left(var(0), SAME))), [[-1], [-1]])

    def test_row_before_too_large(self):
        self.refused(left(var(0), SAME) + [9], [-1])
        self.refused(both(left(var(0), SAME), [12]), [-1])
        self.refused(both(SAME, left(var(1), SAME)), [-1])

    def test_fault_before_too_large(self):
        self.refused(both(left(var(0), SAME), use(0)), [-7, 4, 1])
        self.refused(both(left(OF_256, YES), first(YES)), [-7, 3, 2])
        self.refused(put(SAME, left(OF_256, YES)), [-7, 0, 3])
        self.refused(taking(OF_257, use(1)), [-7, 1, 1])

    def test_fault_before_weight(self):
        self.refused(as_functions([var(0)] + [OF_256] * 3, use(4)), [-7, 4, 1])
        self.refused(ask_if(YES, as_functions([var(0)] + [OF_256] * 3, use(3)), YES), [-7, 0, 3])

    def test_refused_changes_nothing(self):
        for row in ([], use(0), first(YES), left(var(0), SAME), ask_if(YES, NO, SAME), [12]):
            start = (begin(2), sets(0, 2, 3), sets(1, 1, 1), relate(0, 0, 0), relate(1, 0, 0))
            found = tell(*start, meaning(0, row), meaning(3, row), *probe(2))
            self.assertLess(found[5][0], 0)
            self.assertEqual(found[6], [-1])
            self.assertEqual(found[7:], [[2], [3], [0], [1], [1], [0]])

    def test_what_is_related_does_not_matter(self):
        row = taking(var(0), use(0))
        found = tell(sets(0, 3, 2), meaning(0, row), relate(0, 1, 1), relate(0, 2, 0), meaning(0, row), meaning(1, row))
        self.assertEqual(found[1], [21] + function(var(0), var(0)))
        self.assertEqual(found[4:], [[21] + function(var(0), var(0)), [2] + function(var(0), var(0))])


if __name__ == "__main__":
    unittest.main()
