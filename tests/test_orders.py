"""Points [50] and [51]: never, in_order, closest (ordered(case) stands in test_deciding)."""

import itertools
import random
import unittest

from closestrule.errors import NotOrdered, NotRules, TooMany, Torn
from closestrule.listings import Ordered, Rules
from closestrule.orders import closest, in_order, never
from closestrule.smallest import least
from tests.samples import (
    LIKE_TWELVE, SETTLED_TWELVE, TWELVE, by_size, cases_over, every_list, first_by_definition, matter_by_definition,
    results_by_definition, settled_lists, small_lists, smallest_by_definition, wrong_lists,
)

A = ((), 1)
B = (((0, 3),), 2)
C = (((1, 5),), 4)
D = (((0, 3), (1, 5)), 2)
FEW_CASES = cases_over((0, 1), (1, 2))
MANY_CASES = cases_over((0, 1, 3), (0, 1, 2))
# Each of these four single conditions is opposed to those of other attributes: twelve rules in all are needed.
FIVE = ((((0, 1),), 1), (((0, 2),), 2), (((1, 1),), 3), (((2, 1),), 4), ((), 5))
ONE_MORE = (((0, 1), (1, 1), (2, 1), (3, 1)), 9)


def first_results(rules, cases):
    """What the first rules give for the cases, each as the tuple that a Rules would give."""
    found = [(case, first_by_definition(rules, case)) for case in cases]
    return tuple((case, () if result is None else (result,)) for case, result in found)


class NeverTest(unittest.TestCase):
    def check(self, rules, expected):
        ordered = Ordered(*rules)
        self.assertEqual(repr(never(ordered)), repr(expected))
        self.assertEqual(never(ordered), expected)
        self.assertEqual(ordered.rules, rules)

    def test_rules_that_all_decide(self):
        for rules in ((), (A,), (B, A), (D, B, C, A), (B, C, D[:1] + (9,))[:2], (B, (((0, 4),), 2)), TWELVE[:10]):
            self.check(rules, ())

    def test_rules_behind_one_that_matches_whenever_they_do(self):
        self.check((A, B), (1,))
        self.check((A, ((), 2)), (1,))
        self.check((B, D, A), (1,))
        self.check((B, C, D), (2,))
        self.check((A, B, C, D), (1, 2, 3))
        self.check((B, (((0, 3),), 3), A, C), (1, 3))
        self.check((D, B, D[:1] + (5,), C, A), (2,))

    def test_rules_that_match_only_where_two_others_do(self):
        # Both values together are not all there are.
        self.check((B, (((0, 4),), 1), A), ())

    def test_twelve_rules(self):
        self.check(TWELVE[10:11] + TWELVE[:10] + TWELVE[11:], tuple(range(1, 12)))
        self.check(TWELVE, (11,))

    def test_the_rules_that_decide_for_no_case(self):
        for rules in every_list():
            decided = set()
            for case in matter_by_definition(rules):
                matching = [number for number, rule in enumerate(rules) if set(rule[0]) <= set(case)]
                decided.update(matching[:1])
            self.check(rules, tuple(number for number in range(len(rules)) if number not in decided))

    def test_wrong_arguments(self):
        for thing in wrong_lists(Ordered):
            self.assertRaises(NotOrdered, never, thing)


class InOrderTest(unittest.TestCase):
    def check(self, rules, expected):
        listing = Rules(*rules)
        found = in_order(listing)
        self.assertIs(type(found), Ordered)
        self.assertEqual(found.rules, expected)
        self.assertEqual(in_order(listing), found)
        self.assertEqual(listing.rules, rules)

    def test_more_conditions_first_then_ascending(self):
        self.check((), ())
        self.check((A,), (A,))
        self.check((A, B), (B, A))
        self.check((A, C, D, B), (D, B, C, A))
        self.check(((((0, 4),), 0), (((0, 3),), 9), A), ((((0, 3),), 9), (((0, 4),), 0), A))
        self.check((A, (((0, 3),), 1)), ((((0, 3),), 1), A))

    def test_twelve_rules(self):
        self.check(SETTLED_TWELVE, (SETTLED_TWELVE[0],) + tuple((((0, value),), value) for value in range(10)) + (((), 50),))
        self.check(LIKE_TWELVE, LIKE_TWELVE[11:] + LIKE_TWELVE[:10] + LIKE_TWELVE[10:11])

    def test_the_same_results(self):
        for rules in settled_lists():
            found = in_order(Rules(*rules))
            sizes = [-len(conditions) for conditions, result in found.rules]
            self.assertEqual(list(zip(sizes, found.rules)), sorted(zip(sizes, found.rules)))
            self.assertEqual(set(found.rules), set(rules))
            for case in MANY_CASES:
                results = results_by_definition(rules, case)
                self.assertEqual(found(case), results[0] if results else None)

    def test_torn_lists(self):
        for rules in ((A, B, C), (A, ((), 2)), TWELVE):
            self.assertRaises(Torn, in_order, Rules(*rules))

    def test_wrong_arguments(self):
        for thing in wrong_lists(Rules):
            self.assertRaises(NotRules, in_order, thing)


class ClosestTest(unittest.TestCase):
    def check(self, rules, expected):
        ordered = Ordered(*rules)
        found = closest(ordered)
        self.assertIs(type(found), Rules)
        self.assertEqual(repr(found.rules), repr(expected))
        self.assertEqual(closest(ordered).rules, expected)
        self.assertEqual(ordered.rules, rules)

    def test_few_rules(self):
        self.check((), ())
        self.check((A,), (A,))
        self.check((D,), (D,))
        self.check((B, A), (A, B))
        self.check((D, B, C, A), (A, B, C, D))

    def test_rules_that_never_decide(self):
        self.check((A, B), (A,))
        self.check((A, ((), 2)), (A,))
        self.check((B, D[:1] + (9,), A), (A, B))
        self.check((B, (((0, 3),), 3)), (B,))

    def test_a_rule_for_a_case_of_two_rules(self):
        self.check((B, C), (B, C, D))
        self.check((C, B), (B, C, (D[0], 4)))
        self.check((B, C, A), (A, B, C, D))
        self.check((B, (((1, 5),), 2)), (B, (((1, 5),), 2)))

    def test_rules_that_change_nothing(self):
        self.check(((((0, 3),), 1), A), (A,))
        # For 1=5 the rule without conditions gives the same; it counts only beside 0=3.
        self.check(((((1, 5),), 1), B, A), (A, B, (D[0], 1)))

    def test_cases_without_a_result(self):
        self.check((D, B), (B,))
        self.check((B, (((0, 4),), 1)), (B, (((0, 4),), 1)))

    def test_just_twelve_rules_and_one_more(self):
        found = closest(Ordered(*FIVE))
        self.assertEqual(len(found), 12)
        self.assertEqual(found.rules[:5], by_size(FIVE))
        self.assertEqual(found.rules[-1], (((0, 2), (1, 1), (2, 1)), 2))
        for rules in (FIVE + (ONE_MORE,), FIVE[:4] + (ONE_MORE, FIVE[4])):
            self.check(rules, found.rules)
        ordered = Ordered(ONE_MORE, *FIVE)
        self.assertRaises(TooMany, closest, ordered)
        self.assertRaises(TooMany, closest, ordered)
        self.assertEqual(ordered.rules, (ONE_MORE,) + FIVE)

    def test_twelve_rules(self):
        self.check(TWELVE, by_size(TWELVE[:11]))
        self.check(SETTLED_TWELVE, by_size(SETTLED_TWELVE[:8]))
        self.check(by_size(SETTLED_TWELVE)[::-1], by_size(SETTLED_TWELVE))
        self.check(LIKE_TWELVE, (((), 7),))
        single = [(attribute, value) for attribute, many in enumerate((3, 3, 2, 2, 2)) for value in range(many)]
        self.check(tuple(((condition,), 1) for condition in single), tuple(((condition,), 1) for condition in single))
        self.assertRaises(TooMany, closest, Ordered(*[((condition,), at) for at, condition in enumerate(single)]))

    def test_the_smallest_of_all_lists_with_these_results(self):
        for rules in small_lists():
            self.check(rules, smallest_by_definition(first_results(rules, FEW_CASES)))

    def test_the_smallest_of_all_lists_over_three_attributes(self):
        draw = random.Random(5)
        cases = cases_over((0, 2, 4), (6,))
        rules = list(itertools.product(cases, (1, 2)))
        for turn in range(150):
            chosen = tuple(draw.sample(rules, draw.randint(2, 7)))
            self.check(chosen, smallest_by_definition(first_results(chosen, cases)))

    def test_lists_of_many_rules(self):
        made = 0
        for rules in every_list():
            try:
                found = closest(Ordered(*rules))
            except TooMany:
                continue
            made += len(rules) > 3
            self.assertTrue(found.settled)
            self.assertEqual(found.rules, by_size(found.rules))
            self.assertEqual(least(found).rules, found.rules)
            for case, results in first_results(rules, MANY_CASES):
                self.assertEqual(results_by_definition(found.rules, case), results)
        self.assertGreater(made, 100)

    def test_back_from_in_order(self):
        for rules in settled_lists():
            self.assertEqual(closest(in_order(Rules(*rules))).rules, least(Rules(*rules)).rules)

    def test_wrong_arguments(self):
        for thing in wrong_lists(Ordered):
            self.assertRaises(NotOrdered, closest, thing)


if __name__ == "__main__":
    unittest.main()
