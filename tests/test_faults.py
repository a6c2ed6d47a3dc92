import unittest

from tests.calls import (BIGGEST, NO, TWO, YES, ask_if, begin, both, cases, either, first, function, last, left,
                         meaning, pair, put, right, second, sets, taking, tell, use, var)

FOUR = pair(TWO, TWO)
ON_YES = taking(TWO, use(0))
CHOSEN = left(FOUR, YES)
FOR_LEFT = taking(TWO, YES)
FOR_RIGHT = taking(FOUR, NO)


class Faults(unittest.TestCase):
    def fault(self, row, part, which):
        found = tell(meaning(0, row), meaning(1, row))
        self.assertEqual(found, [[-7, part, which], [-7, part, which]], row)

    def fits(self, row):
        self.assertGreaterEqual(last(meaning(0, row))[0], 0, row)


class NoFunction(Faults):
    def test_at_the_first_part(self):
        for number in (0, 1, 5, BIGGEST):
            self.fault(use(number), 0, 1)

    def test_deeper(self):
        self.fault(both(YES, use(0)), 2, 1)
        self.fault(both(use(0), YES), 1, 1)
        self.fault(first(both(both(YES, NO), use(3))), 5, 1)

    def test_within_functions(self):
        self.fits(taking(TWO, use(0)))
        self.fault(taking(TWO, use(1)), 1, 1)
        self.fits(taking(TWO, taking(FOUR, use(1))))
        self.fault(taking(TWO, taking(FOUR, use(2))), 2, 1)
        self.fault(taking(TWO, taking(FOUR, use(BIGGEST))), 2, 1)

    def test_beside_a_function(self):
        self.fault(both(ON_YES, use(0)), 3, 1)
        self.fault(put(ON_YES, use(0)), 3, 1)
        self.fault(cases(left(TWO, use(0)), FOR_LEFT, FOR_LEFT), 2, 1)
        self.fault(taking(TWO, both(taking(TWO, use(1)), use(1))), 4, 1)

    def test_types_are_no_parts(self):
        self.fault(taking(function(FOUR, FOUR), left(FOUR, right(FOUR, use(1)))), 3, 1)

    def test_one_part_of_each_kind(self):
        self.fault(first(use(0)), 1, 1)
        self.fault(second(use(0)), 1, 1)
        self.fault(left(TWO, use(0)), 1, 1)
        self.fault(right(TWO, use(0)), 1, 1)
        self.fault(put(use(0), YES), 1, 1)
        for place in range(3):
            parts = [YES, YES, YES]
            parts[place] = use(0)
            self.fault(ask_if(*parts), place + 1, 1)
        self.fault(cases(use(0), FOR_LEFT, FOR_RIGHT), 1, 1)
        self.fault(cases(CHOSEN, use(0), FOR_RIGHT), 3, 1)
        self.fault(cases(CHOSEN, FOR_LEFT, use(0)), 5, 1)


class NotOfTheKind(Faults):
    def test_first_and_second(self):
        for made in (first, second):
            for term in (YES, ON_YES, left(TWO, YES), right(FOUR, NO)):
                self.fault(made(term), 0, 2)
                self.fault(both(YES, made(term)), 2, 2)
            self.fits(made(both(YES, ON_YES)))

    def test_a_variables_type(self):
        for made in (first, second):
            for kind in (TWO, var(0), either(TWO, TWO), function(TWO, TWO)):
                self.fault(taking(kind, made(use(0))), 1, 2)
            self.fits(taking(pair(TWO, var(0)), made(use(0))))

    def test_cases(self):
        self.fits(cases(CHOSEN, FOR_LEFT, FOR_RIGHT))
        for term in (YES, both(YES, NO), ON_YES):
            self.fault(cases(term, FOR_LEFT, FOR_RIGHT), 0, 2)
        for term in (YES, both(YES, NO), left(TWO, YES)):
            self.fault(cases(CHOSEN, term, FOR_RIGHT), 0, 2)
            self.fault(cases(CHOSEN, FOR_LEFT, term), 0, 2)
        self.fault(both(NO, cases(CHOSEN, FOR_LEFT, YES)), 2, 2)

    def test_put_to(self):
        for term in (YES, both(YES, NO), left(TWO, YES), right(TWO, YES)):
            self.fault(put(term, YES), 0, 2)
            self.fault(ask_if(YES, NO, put(term, YES)), 3, 2)

    def test_if(self):
        for term in (both(YES, NO), ON_YES, left(TWO, YES)):
            self.fault(ask_if(term, YES, NO), 0, 2)
            self.fault(first(both(YES, ask_if(term, YES, NO))), 3, 2)
        self.fault(taking(var(0), ask_if(use(0), YES, NO)), 1, 2)

    def test_a_set_of_two_is_not_two(self):
        row = taking(var(0), ask_if(use(0), YES, NO))
        self.assertEqual(tell(sets(0, 2, 2), meaning(0, row), meaning(1, row))[1:], [[-7, 1, 2], [-7, 1, 2]])


class NotTheSame(Faults):
    def test_cases_left(self):
        self.fault(cases(CHOSEN, taking(FOUR, YES), FOR_RIGHT), 0, 3)
        self.fault(both(YES, cases(CHOSEN, taking(FOUR, YES), FOR_RIGHT)), 2, 3)

    def test_cases_right(self):
        self.fault(cases(CHOSEN, FOR_LEFT, taking(TWO, NO)), 0, 3)

    def test_cases_given(self):
        self.fault(cases(CHOSEN, FOR_LEFT, taking(FOUR, use(0))), 0, 3)
        self.fault(cases(CHOSEN, taking(TWO, both(YES, NO)), FOR_RIGHT), 0, 3)

    def test_cases_the_wrong_way_round(self):
        self.fault(cases(CHOSEN, FOR_RIGHT, FOR_LEFT), 0, 3)
        self.fits(cases(right(FOUR, YES), FOR_RIGHT, FOR_LEFT))

    def test_put_to(self):
        self.fault(put(ON_YES, both(YES, NO)), 0, 3)
        self.fault(put(ON_YES, ON_YES), 0, 3)
        self.fault(taking(var(0), put(ON_YES, use(0))), 1, 3)

    def test_if(self):
        self.fault(ask_if(YES, YES, both(YES, NO)), 0, 3)
        self.fault(ask_if(YES, both(YES, NO), NO), 0, 3)
        self.fault(first(ask_if(YES, left(TWO, YES), right(FOUR, YES))), 1, 3)

    def test_types_alike_but_for_a_part(self):
        self.fault(taking(function(var(0), TWO), put(use(0), YES)), 1, 3)
        self.fault(ask_if(YES, left(FOUR, YES), left(either(TWO, TWO), YES)), 0, 3)
        self.fault(ask_if(YES, left(pair(TWO, FOUR), YES), left(pair(FOUR, TWO), YES)), 0, 3)
        self.fits(ask_if(YES, left(TWO, YES), right(TWO, NO)))

    def test_sets_that_are_alike_are_not_the_same_type(self):
        row = taking(var(0), taking(var(1), ask_if(YES, use(0), use(1))))
        self.assertEqual(last(begin(2), meaning(0, row)), [-7, 2, 3])
        row = taking(var(0), put(ON_YES, use(0)))
        self.assertEqual(last(sets(0, 2, 2), meaning(0, row)), [-7, 1, 3])


class TheFirst(Faults):
    def test_own_parts_first(self):
        self.fault(first(ask_if(YES, YES, ON_YES)), 1, 3)
        self.fault(first(first(YES)), 1, 2)
        self.fault(ask_if(both(YES, NO), YES, first(YES)), 5, 2)
        self.fault(ask_if(both(YES, NO), YES, use(0)), 5, 1)
        self.fault(put(YES, use(0)), 2, 1)
        self.fault(put(both(YES, NO), put(YES, YES)), 4, 2)

    def test_in_order(self):
        self.fault(both(use(0), first(YES)), 1, 1)
        self.fault(both(first(YES), use(0)), 1, 2)
        self.fault(ask_if(ask_if(YES, YES, ON_YES), use(0), first(YES)), 1, 3)
        self.fault(cases(first(YES), use(0), use(0)), 1, 2)
        self.fault(cases(CHOSEN, first(YES), use(0)), 3, 2)

    def test_each_wholly(self):
        # In the first side the fault is deep, and in the second it is at the part itself.
        self.fault(both(both(YES, both(YES, use(0))), use(0)), 5, 1)
        self.fault(both(ask_if(YES, YES, both(NO, first(YES))), first(YES)), 6, 2)

    def test_2_before_3(self):
        # What is chosen is no either, or a function isn't one; and others that ought to be the same aren't.
        self.fault(cases(CHOSEN, taking(FOUR, YES), YES), 0, 2)
        self.fault(cases(CHOSEN, YES, taking(TWO, NO)), 0, 2)
        self.fault(cases(YES, FOR_LEFT, taking(FOUR, both(NO, NO))), 0, 2)
        self.fault(ask_if(both(YES, NO), YES, ON_YES), 0, 2)
        self.fault(both(YES, ask_if(both(YES, NO), YES, ON_YES)), 2, 2)

    def test_numbers_of_parts(self):
        row = both(cases(CHOSEN, FOR_LEFT, FOR_RIGHT), put(taking(TWO, ask_if(use(0), NO, YES)), first(YES)))
        # 0 pair, 1 cases, 2 left, 3 yes, 4 function, 5 yes, 6 function, 7 no, 8 put to, 9 function, 10 if, 11 variable,
        # 12 no, 13 yes, 14 first.
        self.fault(row, 14, 2)
        row = both(cases(CHOSEN, FOR_LEFT, FOR_RIGHT), put(taking(TWO, ask_if(use(0), NO, both(YES, YES))), YES))
        self.fault(row, 10, 3)

    def test_in_a_function_from_none(self):
        self.assertEqual(last(sets(0, 0, 0), meaning(0, taking(var(0), first(use(0))))), [-7, 1, 2])


if __name__ == "__main__":
    unittest.main()
