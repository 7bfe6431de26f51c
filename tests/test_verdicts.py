"""Points [30] and [31]: settled, verdict, shows_verdict."""

import itertools
import unittest

from closestrule.errors import NotRules
from closestrule.listings import Ordered, Rules
from closestrule.verdicts import deciding, shows_verdict, verdict
from tests.samples import (
    OTHER_VALUES, WRONG_CASES, WRONG_RULES, cases_over, deciding_by_definition, every_list, mixed_lists,
    shown_by_definition, small_lists, variants, verdict_by_definition, wrong_lists,
)

A = ((), 1)
B = (((0, 3),), 2)
C = (((1, 5),), 4)
D = (((0, 3), (1, 5)), 2)
# Both the rules 3 and 4 settle the rules 1 and 2.
TWICE = (A, B, C, D, (((0, 3), (1, 5)), 4))
# The opposed rules 0 and 1 are settled by the rules 2, 3 and 4, the rules 1 and 2 by the rules 3 and 4.
WIDE = (
    (((0, 1), (1, 1)), 1), (((2, 1), (3, 1)), 2), (((0, 1), (1, 1), (2, 1)), 1), (((0, 1), (2, 1), (3, 1)), 1),
    (((0, 1), (1, 1), (2, 1), (3, 1)), 1),
)


class VerdictTest(unittest.TestCase):
    def check(self, rules, expected):
        listing = Rules(*rules)
        found = verdict(listing)
        self.assertEqual(repr(found), repr(expected))
        self.assertEqual(repr(verdict(listing)), repr(expected))
        self.assertIs(listing.settled, expected[0] == "settled")
        self.assertIs(shows_verdict(listing, found), True)
        self.assertEqual(listing.rules, rules)

    def test_lists_without_opposed_rules(self):
        for rules in ((), (A,), (A, B), (B, A), (A, D, B), (B, (((0, 4),), 3)), (B, (((1, 5),), 2)), (A, B, (D[0], 9))):
            self.check(rules, ("settled", ()))

    def test_settled_lists(self):
        self.check((A, B, C, D), ("settled", ((1, 2, 3),)))
        self.check((D, C, B, A), ("settled", ((1, 2, 0),)))
        self.check((B, D, C), ("settled", ((0, 2, 1),)))
        self.check(WIDE, ("settled", ((0, 1, 2), (1, 2, 3))))

    def test_torn_lists(self):
        self.check((A, B, C), ("torn", 1, 2, ((0, 3), (1, 5))))
        self.check((C, A, B), ("torn", 0, 2, ((0, 3), (1, 5))))
        self.check((A, ((), 2)), ("torn", 0, 1, ()))
        self.check((B, A, (((0, 3),), 3)), ("torn", 0, 2, ((0, 3),)))
        self.check(TWICE, ("torn", 3, 4, ((0, 3), (1, 5))))
        # The rule for the attributes 0 and 1 does not reach the rule for the attribute 2.
        self.check((B, C, D, (((2, 0),), 7)), ("torn", 0, 3, ((0, 3), (2, 0))))

    def test_the_first_opposed_rules_that_are_not_settled(self):
        rules = (B, C, D, (((2, 0),), 7), (((0, 3), (2, 0)), 1), (((3, 3),), 7))
        self.check(rules, ("torn", 0, 5, ((0, 3), (3, 3))))

    def test_a_rule_outside_of_both_together_does_not_settle(self):
        self.check((B, C, (((0, 3), (1, 5), (2, 0)), 2)), ("torn", 0, 1, ((0, 3), (1, 5))))

    def test_a_rule_that_includes_none_of_the_two_does_not_settle(self):
        one, other = (((0, 1), (1, 1)), 1), (((2, 1), (3, 1)), 2)
        self.check((one, other, (((0, 1), (2, 1)), 1)), ("torn", 0, 1, ((0, 1), (1, 1), (2, 1), (3, 1))))
        self.check((one, other, (((0, 1),), 1)), ("torn", 0, 1, ((0, 1), (1, 1), (2, 1), (3, 1))))

    def test_a_rule_with_the_same_conditions_does_not_settle(self):
        self.check((B, C, (((0, 3),), 2 + 2), A), ("torn", 0, 1, ((0, 3), (1, 5))))

    def test_as_defined(self):
        for rules in every_list():
            expected = verdict_by_definition(rules)
            self.assertEqual(repr(verdict(Rules(*rules))), repr(expected))
            self.assertIs(Rules(*rules).settled, expected[0] == "settled")

    def test_both_verdicts_occur_often(self):
        found = [verdict_by_definition(rules) for rules in mixed_lists()]
        self.assertGreater(len([1 for told in found if told[0] == "torn"]), 50)
        self.assertGreater(len([1 for told in found if told[0] == "settled" and len(told[1]) > 1]), 20)

    def test_exactly_in_settled_lists_no_case_has_two_results(self):
        cases = cases_over((0, 1, 3), (0, 1, 2))
        for rules in every_list():
            listing = Rules(*rules)
            most = max(len(listing(case)) for case in cases)
            self.assertIs(listing.settled, most < 2)

    def test_wrong_arguments(self):
        for thing in wrong_lists(Rules):
            self.assertRaises(NotRules, verdict, thing)

    def test_settled_can_only_be_read(self):
        listing = Rules(A, B)
        with self.assertRaises(AttributeError):
            listing.settled = False
        self.assertFalse(hasattr(Ordered(A), "settled"))


class ShowsSettledTest(unittest.TestCase):
    def test_what_verdict_returns(self):
        for rules in every_list():
            self.assertIs(shows_verdict(Rules(*rules), verdict(Rules(*rules))), True)

    def test_other_rules_that_settle(self):
        listing = Rules(*WIDE)
        for k in (2, 3, 4):
            self.assertIs(shows_verdict(listing, ("settled", ((0, 1, k), (1, 2, 4)))), True)
        for k in (-1, -2, 0, 1, 5, 12, 10**12, True, None, "2"):
            self.assertIs(shows_verdict(listing, ("settled", ((0, 1, k), (1, 2, 4)))), False)

    def test_a_part_for_each_opposed_pair_and_no_other(self):
        listing = Rules(*WIDE)
        for parts in (
            (), ((0, 1, 2),), ((1, 2, 4),), ((1, 2, 4), (0, 1, 2)), ((0, 1, 2), (0, 1, 3), (1, 2, 4)),
            ((0, 1, 2), (1, 2, 4), (1, 2, 4)), ((1, 0, 2), (1, 2, 4)), ((0, 1, 2), (2, 1, 4)), ((0, 1, 2), (1, 3, 4)),
            ((0, 1, 2), (1, 2, 4), (2, 3, 4)), ((0, 1), (1, 2)), ((0, 1, 2, 2), (1, 2, 4)),
        ):
            self.assertIs(shows_verdict(listing, ("settled", parts)), False)

    def test_lists_without_opposed_rules(self):
        for listing in (Rules(), Rules(A), Rules(A, B)):
            self.assertIs(shows_verdict(listing, ("settled", ())), True)
            for thing in (("settled",), ("settled", [], ), ("settled", (), ()), ("settled", ((),)), ("settled", ((0, 1, 1),))):
                self.assertIs(shows_verdict(listing, thing), False)
            self.assertIs(shows_verdict(listing, ["settled", ()]), False)

    def test_torn_lists_are_not_shown_to_be_settled(self):
        for parts in ((), ((1, 2, 0),), ((1, 2, 3),), ((1, 2, None),), ((1, 2),)):
            self.assertIs(shows_verdict(Rules(A, B, C), ("settled", parts)), False)


class ShowsTornTest(unittest.TestCase):
    def test_other_cases_and_numbers(self):
        listing = Rules(A, B, C, (((2, 2),), 2), (((4, 4),), 0))
        for thing in (
            ("torn", 1, 2, ((0, 3), (1, 5))), ("torn", 1, 2, ((0, 3), (1, 5), (2, 9), (3, 3))),
            ("torn", 1, 2, ((0, 3), (1, 5), (2, 2))), ("torn", 2, 3, ((1, 5), (2, 2))), ("torn", 3, 4, ((2, 2), (4, 4))),
            ("torn", 1, 4, ((0, 3), (4, 4))), ("torn", 2, 4, ((0, 3), (1, 5), (2, 2), (3, 0), (4, 4))),
        ):
            self.assertIs(shows_verdict(listing, thing), True)
        for thing in (
            # not deciding for this case, or beaten
            ("torn", 1, 2, ()), ("torn", 1, 2, ((0, 3),)), ("torn", 1, 2, ((0, 3), (1, 6))), ("torn", 0, 1, ((0, 3),)),
            ("torn", 0, 4, ((4, 4),)),
            # the same result
            ("torn", 1, 3, ((0, 3), (2, 2))),
            # numbers in the wrong order, equal ones, and such as no rule has
            ("torn", 2, 1, ((0, 3), (1, 5))), ("torn", 1, 1, ((0, 3), (1, 5))), ("torn", 1, 5, ((0, 3), (4, 4))),
            ("torn", -4, -3, ((0, 3), (1, 5))), ("torn", -4, 2, ((0, 3), (1, 5))), ("torn", True, 2, ((0, 3), (1, 5))),
            # no cases
            ("torn", 1, 2, ((1, 5), (0, 3))), ("torn", 1, 2, [(0, 3), (1, 5)]), ("torn", 1, 2, ((0, 3), [1, 5])),
            ("torn", 1, 2, ((0, 3), (True, 5))), ("torn", 1, 2, ((0, 3), (1, 5), (1, 6))), ("torn", 1, 2, ((0, 3), (1, 5), (5, 0))),
        ):
            self.assertIs(shows_verdict(listing, thing), False)

    def test_a_case_in_which_a_rule_beats_one_of_the_two(self):
        listing = Rules(B, C, (((0, 3), (2, 0)), 2))
        self.assertIs(shows_verdict(listing, ("torn", 0, 1, ((0, 3), (1, 5)))), True)
        self.assertIs(shows_verdict(listing, ("torn", 0, 1, ((0, 3), (1, 5), (2, 0)))), False)
        self.assertIs(shows_verdict(listing, ("torn", 1, 2, ((0, 3), (1, 5), (2, 0)))), True)

    def test_all_numbers_and_cases(self):
        cases = cases_over((0, 1), (0, 1, 2)) + [((2, 2),), ((0, 1), (4, 0))]
        for rules in small_lists()[::3] + mixed_lists()[:20]:
            listing = Rules(*rules)
            for case in cases:
                decided = deciding_by_definition(rules, case)
                for i, j in itertools.product(range(-1, len(rules) + 1), repeat=2):
                    expected = 0 <= i < j < len(rules) and rules[i] in decided and rules[j] in decided
                    expected = expected and rules[i][1] != rules[j][1]
                    self.assertIs(shows_verdict(listing, ("torn", i, j, case)), expected)

    def test_wrong_cases(self):
        for thing in WRONG_CASES:
            self.assertIs(shows_verdict(Rules(A, ((), 2)), ("torn", 0, 1, thing)), False)
        self.assertIs(shows_verdict(Rules(A, ((), 2)), ("torn", 0, 1, ((4, 9),))), True)


class ShowsAnyValueTest(unittest.TestCase):
    def test_other_values(self):
        for listing in (Rules(), Rules(A, B, C), Rules(A, B, C, D), Rules(*TWICE)):
            for thing in OTHER_VALUES + WRONG_RULES + (listing, listing.rules, (listing,), deciding(listing, ())):
                before = repr(thing)
                self.assertIs(shows_verdict(listing, thing), False)
                self.assertEqual(repr(thing), before)

    def test_changed_values(self):
        shown = []
        for rules in (
            (A, B, C), (A, B, C, D), WIDE, TWICE, (B, C, D, (((0, 3), (1, 5)), 2 + 2)), (A, ((), 0)), (),
            ((((0, 1),), 1), (((1, 0),), 0)), ((((0, 1),), 1), (((1, 0),), 0), (((0, 1), (1, 0)), 0)),
        ):
            listing = Rules(*rules)
            for thing in variants(verdict(listing)):
                expected = shown_by_definition(rules, thing)
                self.assertIs(shows_verdict(listing, thing), expected, (rules, thing))
                shown.append(expected)
        self.assertGreater(len([1 for expected in shown if expected]), 20)

    def test_long_values(self):
        for parts in (((1, 2, 3),) * 2000, ((),) * 7000, tuple(range(7000))):
            self.assertIs(shows_verdict(Rules(A, B, C, D), ("settled", parts)), False)
            self.assertIs(shows_verdict(Rules(A, B, C), ("torn", 1, 2, parts)), False)
            self.assertIs(shows_verdict(Rules(A, B, C), parts), False)

    def test_wrong_arguments(self):
        for thing in wrong_lists(Rules):
            self.assertRaises(NotRules, shows_verdict, thing, ("settled", ()))
            self.assertRaises(NotRules, shows_verdict, thing, None)


if __name__ == "__main__":
    unittest.main()
