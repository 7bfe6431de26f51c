"""Points [20] and [50]: matching and beating, rules(case), deciding, ordered(case)."""

import unittest

from closestrule.errors import NoCase, NotRules
from closestrule.listings import Ordered, Rules
from closestrule.verdicts import deciding
from tests.samples import WRONG_CASES, cases_over, deciding_by_definition, every_list, wrong_lists

A = ((), 1)
B = (((0, 3),), 2)
C = (((1, 5),), 4)
D = (((0, 3), (1, 5)), 2)


class ClosestTest(unittest.TestCase):
    def check(self, rules, case, decided, results):
        listing = Rules(*rules)
        self.assertEqual(deciding(listing, case), decided)
        self.assertIs(type(deciding(listing, case)), tuple)
        self.assertEqual(listing(case), results)
        self.assertIs(type(listing(case)), tuple)
        self.assertEqual(deciding(listing, case), decided)
        self.assertEqual(listing(case), results)
        self.assertEqual(listing.rules, rules)

    def test_no_rule_matches(self):
        for case in ((), ((0, 3),), ((4, 9),)):
            self.check((), case, (), ())
        for case in ((), ((0, 4),), ((1, 3),), ((1, 5),)):
            self.check((B,), case, (), ())
            self.check((B, D), case, (), ())
        self.check((D,), ((0, 3), (1, 6)), (), ())

    def test_one_rule_matches(self):
        for case in ((), ((0, 3),), ((2, 2), (3, 3))):
            self.check((A,), case, (A,), (1,))
        self.check((C, D, B), ((0, 3),), (B,), (2,))

    def test_a_rule_that_beats(self):
        self.check((A, B), ((0, 3),), (B,), (2,))
        self.check((B, A), ((0, 3), (1, 1)), (B,), (2,))
        self.check((A, B, C, D), ((0, 3), (1, 5)), (D,), (2,))
        self.check((D, A, C), ((0, 3), (1, 5)), (D,), (2,))
        self.check((A, D), ((0, 3), (1, 5), (4, 4)), (D,), (2,))

    def test_several_rules_decide_in_their_order(self):
        self.check((A, B, C), ((0, 3), (1, 5)), (B, C), (2, 4))
        self.check((C, A, B), ((0, 3), (1, 5)), (C, B), (2, 4))
        self.check((D, (((2, 2),), 0), A), ((0, 3), (1, 5), (2, 2)), (D, (((2, 2),), 0)), (0, 2))

    def test_rules_with_the_same_conditions(self):
        self.check((A, ((), 0)), (), (A, ((), 0)), (0, 1))
        self.check((A, B, (((0, 3),), 1)), ((0, 3),), (B, (((0, 3),), 1)), (1, 2))

    def test_a_result_of_several_rules_is_told_once(self):
        self.check(((((0, 3),), 2), (((1, 5),), 2), (((2, 0),), 1)), ((0, 3), (1, 5)), (B, (((1, 5),), 2)), (2,))

    def test_results_ascend_as_numbers(self):
        rules = tuple(((), result) for result in (10, 9, 99, 0, 2))
        self.check(rules, (), rules, (0, 2, 9, 10, 99))

    def test_a_rule_that_does_not_match_beats_none(self):
        self.check((A, D), ((0, 3),), (A,), (1,))
        self.check((B, D), ((0, 3), (1, 6)), (B,), (2,))

    def test_attributes_and_values_that_no_rule_names(self):
        for case in (((2, 0),), ((0, 9),), ((3, 3), (4, 4)), ((1, 0), (2, 5))):
            self.check((A, B, C, D), case, (A,), (1,))

    def test_as_defined(self):
        cases = cases_over((0, 1, 3), (0, 1)) + [((0, 2),), ((2, 1),), ((0, 1), (2, 1), (4, 4)), ((1, 2), (3, 1))]
        for rules in every_list():
            listing = Rules(*rules)
            for case in cases:
                decided = deciding_by_definition(rules, case)
                self.assertEqual(deciding(listing, case), decided)
                self.assertEqual(listing(case), tuple(sorted({result for conditions, result in decided})))

    def test_wrong_arguments(self):
        for thing in wrong_lists(Rules):
            self.assertRaises(NotRules, deciding, thing, ())
            self.assertRaises(NotRules, deciding, thing, None)
        for thing in WRONG_CASES:
            self.assertRaises(NoCase, deciding, Rules(A, B), thing)
            self.assertRaises(NotRules, deciding, None, thing)


class FirstTest(unittest.TestCase):
    def test_the_first_that_matches(self):
        ordered = Ordered(D, B, C, A)
        self.assertEqual(ordered(((0, 3), (1, 5))), 2)
        self.assertEqual(ordered(((0, 3),)), 2)
        self.assertEqual(ordered(((1, 5), (2, 2))), 4)
        self.assertEqual(ordered(()), 1)
        self.assertEqual(ordered(((0, 4),)), 1)
        self.assertEqual(Ordered(A, B)(((0, 3),)), 1)
        self.assertEqual(Ordered(C, B, D)(((0, 3), (1, 5))), 4)
        self.assertEqual(Ordered(((), 0), A)(()), 0)

    def test_none_if_no_rule_matches(self):
        self.assertIsNone(Ordered()(()))
        self.assertIsNone(Ordered()(((0, 3),)))
        self.assertIsNone(Ordered(B, C, D)(()))
        self.assertIsNone(Ordered(B, C, D)(((0, 5), (1, 3))))

    def test_as_defined(self):
        for rules in every_list():
            ordered = Ordered(*rules)
            for case in cases_over((0, 1, 3), (0, 1)):
                matching = [result for conditions, result in rules if set(conditions) <= set(case)]
                self.assertEqual(ordered(case), matching[0] if matching else None)
            self.assertEqual(ordered.rules, rules)


if __name__ == "__main__":
    unittest.main()
