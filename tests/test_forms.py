"""Points [2] and [10]: what is a condition, a case, a rule, and what is not."""

import unittest

from closestrule.errors import NoCase, NoRules
from closestrule.listings import Ordered, Rules
from closestrule.verdicts import deciding
from tests.samples import RIGHT_CASES, RIGHT_RULES, WRONG_CASES, WRONG_RULES, cases_over


class CasesTest(unittest.TestCase):
    def test_cases_are_accepted(self):
        for case in RIGHT_CASES:
            with self.subTest(case):
                self.assertEqual(Rules(((), 1))(case), (1,))
                self.assertEqual(Ordered(((), 1))(case), 1)
                self.assertEqual(deciding(Rules(((), 1)), case), (((), 1),))

    def test_all_single_conditions_are_accepted(self):
        for attribute in range(5):
            for value in range(10):
                self.assertEqual(Rules((((attribute, value),), 7))(((attribute, value),)), (7,))

    def test_other_values_raise_no_case(self):
        for thing in WRONG_CASES:
            with self.subTest(thing):
                self.assertRaises(NoCase, Rules(((), 1)), thing)
                self.assertRaises(NoCase, Rules(), thing)
                self.assertRaises(NoCase, Ordered(((), 1)), thing)
                self.assertRaises(NoCase, Ordered(), thing)
                self.assertRaises(NoCase, deciding, Rules(((), 1)), thing)

    def test_orders_of_attributes(self):
        for case in cases_over((0, 1, 2), (1,)):
            for turned in {case[::-1], case[1:] + case[:1]} - {case}:
                self.assertRaises(NoCase, Rules(), turned)


class RulesTest(unittest.TestCase):
    def test_rules_are_accepted(self):
        for rule in RIGHT_RULES:
            for kind in (Rules, Ordered):
                with self.subTest((kind, rule)):
                    self.assertEqual(kind(rule).rules, (rule,))
                    self.assertTrue(rule in kind(rule))

    def test_all_results_from_0_to_99(self):
        for result in range(100):
            self.assertEqual(Rules(((), result))(()), (result,))
            self.assertEqual(Ordered(((), result))(()), result)

    def test_other_values_raise_no_rules(self):
        for thing in WRONG_RULES:
            for kind in (Rules, Ordered):
                with self.subTest((kind, thing)):
                    self.assertRaises(NoRules, kind, thing)
                    self.assertRaises(NoRules, kind, ((), 1), thing)
                    self.assertRaises(NoRules, kind, thing, ((), 1))
                    self.assertFalse(thing in kind(((), 1), (((0, 1),), 1), (((1, 0),), 0)))

    def test_a_bool_is_no_integer(self):
        for kind in (Rules, Ordered):
            listing = kind((((0, 1), (1, 0)), 1))
            for thing in (
                (((False, 1), (1, 0)), 1), (((0, True), (1, 0)), 1), (((0, 1), (True, 0)), 1),
                (((0, 1), (1, False)), 1), (((0, 1), (1, 0)), True),
            ):
                self.assertEqual(thing, listing.rules[0])
                self.assertFalse(thing in listing)
                self.assertRaises(NoRules, kind, thing)


if __name__ == "__main__":
    unittest.main()
