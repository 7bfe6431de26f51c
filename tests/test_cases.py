"""Point [32]: the cases that matter."""

import inspect
import unittest

from closestrule.errors import NotRules
from closestrule.listings import Rules
from closestrule.verdicts import cases
from tests.samples import TWELVE, cases_over, every_list, matter_by_definition, wrong_lists

A = ((), 1)
B = (((0, 3),), 2)
C = (((1, 5),), 4)


class CasesTest(unittest.TestCase):
    def check(self, rules, expected):
        listing = Rules(*rules)
        self.assertEqual(repr(list(cases(listing))), repr(expected))
        self.assertEqual(list(cases(listing)), expected)
        self.assertEqual(listing.rules, rules)

    def test_a_generator(self):
        self.assertTrue(inspect.isgenerator(cases(Rules())))

    def test_few_rules(self):
        self.check((), [()])
        self.check((A,), [()])
        self.check((B,), [(), ((0, 3),)])
        self.check((C, B, A), [(), ((0, 3),), ((1, 5),), ((0, 3), (1, 5))])

    def test_each_once(self):
        self.check((A, ((), 2), B, (((0, 3),), 4)), [(), ((0, 3),)])
        self.check((B, C, (((0, 3), (1, 5)), 2)), [(), ((0, 3),), ((1, 5),), ((0, 3), (1, 5))])

    def test_rules_that_do_not_meet(self):
        self.check((B, (((0, 2),), 2)), [(), ((0, 2),), ((0, 3),)])
        self.check(
            ((((0, 3), (1, 5)), 1), (((1, 6), (2, 0)), 1), (((2, 1),), 1)),
            [(), ((2, 1),), ((0, 3), (1, 5)), ((1, 6), (2, 0)), ((0, 3), (1, 5), (2, 1))],
        )

    def test_fewer_conditions_first(self):
        self.check(
            ((((0, 0), (1, 0), (2, 0)), 1), (((4, 9),), 1), (((3, 9),), 1)),
            [
                (), ((3, 9),), ((4, 9),), ((3, 9), (4, 9)), ((0, 0), (1, 0), (2, 0)),
                ((0, 0), (1, 0), (2, 0), (3, 9)), ((0, 0), (1, 0), (2, 0), (4, 9)),
                ((0, 0), (1, 0), (2, 0), (3, 9), (4, 9)),
            ],
        )

    def test_as_defined(self):
        for rules in every_list()[::2] + [TWELVE]:
            self.check(rules, matter_by_definition(rules))

    def test_twelve_rules_with_many_cases(self):
        single = [(attribute, value) for attribute, many in enumerate((3, 3, 2, 2, 2)) for value in range(many)]
        rules = tuple(((condition,), 1) for condition in single)
        self.assertEqual(len(list(cases(Rules(*rules)))), 4 * 4 * 3 * 3 * 3)

    def test_every_case_has_the_matching_rules_of_one_of_them(self):
        for rules in every_list()[::5]:
            found = {tuple(rule for rule in rules if set(rule[0]) <= set(case)) for case in cases(Rules(*rules))}
            for case in cases_over((0, 1, 3), (0, 1, 2)):
                self.assertIn(tuple(rule for rule in rules if set(rule[0]) <= set(case)), found)

    def test_not_rules_is_raised_when_first_iterated(self):
        for thing in wrong_lists(Rules):
            generator = cases(thing)
            self.assertRaises(NotRules, next, generator)


if __name__ == "__main__":
    unittest.main()
