"""Points [40] and [41]: least, same, shows_same."""

import itertools
import unittest

from closestrule.errors import NotRules, Torn
from closestrule.listings import Ordered, Rules
from closestrule.smallest import least, same, shows_same
from tests.samples import (
    LIKE_TWELVE, OTHER_VALUES, SETTLED_TWELVE, TWELVE, WRONG_CASES, WRONG_RULES, all_cases_by_repr, by_size, cases_over,
    lists_with_results, results_by_definition, settled_lists, small_lists, smallest_by_definition, variants,
    verdict_by_definition, wrong_lists,
)

A = ((), 1)
B = (((0, 3),), 2)
C = (((1, 5),), 4)
D = (((0, 3), (1, 5)), 2)
TORN = Rules(A, B, C)
FEW_CASES = cases_over((0, 1), (1, 2))
MANY_CASES = cases_over((0, 1, 3), (0, 1, 2))


def given_results(rules, cases):
    """What the rules give for each of the cases, in a form that can be a key."""
    return tuple((case, results_by_definition(rules, case)) for case in cases)


def small_settled_lists():
    return [rules for rules in small_lists() if verdict_by_definition(rules)[0] == "settled"]


def shown_by_definition(one, other, thing):
    """Whether the value, written out, is one of those that tell the truth of the two lists."""
    if repr(thing) == "('same',)":
        return same(Rules(*one), Rules(*other)) == ("same",)
    name, start = repr(thing), "('different', "
    case = all_cases_by_repr().get(name[len(start):-1]) if name.startswith(start) else None
    return case is not None and results_by_definition(one, case) != results_by_definition(other, case)


class LeastTest(unittest.TestCase):
    def check(self, rules, expected):
        listing = Rules(*rules)
        found = least(listing)
        self.assertIs(type(found), Rules)
        self.assertEqual(repr(found.rules), repr(expected))
        self.assertEqual(least(listing).rules, expected)
        self.assertEqual(least(found).rules, expected)
        self.assertEqual(listing.rules, rules)

    def test_lists_that_are_smallest(self):
        for rules in ((), (A,), (B,), (D,), (A, B), (A, B, C, D), (B, C, D), (B, (((1, 5),), 2)), (A, D)):
            self.check(rules, rules)
            self.check(rules[::-1], rules)

    def test_rules_that_change_nothing(self):
        self.check((A, (((0, 3),), 1)), (A,))
        self.check(((((0, 3),), 1), A), (A,))
        self.check((A, B, D), (A, B))
        self.check((D, B, (((1, 5),), 2)), (B, (((1, 5),), 2)))
        self.check((A, (((0, 3),), 1), D), (A, D))
        self.check((A, (((0, 3),), 1), (((0, 3), (1, 5)), 1)), (A,))

    def test_a_rule_that_settles_two_others_is_kept(self):
        self.check((B, C, D), (B, C, D))
        self.check((A, B, C, (D[0], 1)), (A, B, C, (D[0], 1)))

    def test_a_rule_is_kept_beside_a_kept_one_that_beats_another(self):
        # Without the second rule the third one would change nothing.
        self.check((A, B, (D[0], 1)), (A, B, (D[0], 1)))
        self.check((A, (D[0], 1)), (A,))

    def test_a_rule_that_is_only_there_to_settle_rules_left_out(self):
        # The rule for 1=5 gives what the first one gives, so nothing is left to settle.
        self.check((A, B, (((1, 5),), 1), D), (A, B))
        self.check((A, B, (((1, 5),), 1), (D[0], 1)), (A, B, (D[0], 1)))

    def test_only_kept_rules_count(self):
        # The rule for 0=3 is left out, so for 0=3 1=5 the rule without conditions gives the result.
        self.check((A, (((0, 3),), 1), (((0, 3), (1, 5)), 1), (((0, 3), (1, 5), (2, 0)), 2)), (A, (((0, 3), (1, 5), (2, 0)), 2)))

    def test_the_order(self):
        rules = (D, (((4, 0),), 4), B, A, (((0, 1), (4, 9)), 3), (((0, 1), (4, 0)), 4), (((0, 3), (4, 0)), 0), (D[0] + ((4, 0),), 1))
        self.check(rules, (A, B, (((4, 0),), 4), (((0, 1), (4, 9)), 3), (((0, 3), (4, 0)), 0), (D[0] + ((4, 0),), 1)))

    def test_twelve_rules(self):
        self.check(SETTLED_TWELVE, by_size(SETTLED_TWELVE))
        self.assertEqual(len(least(Rules(*SETTLED_TWELVE))), 12)
        self.check(LIKE_TWELVE, (((), 7),))
        self.check(LIKE_TWELVE[:10], LIKE_TWELVE[:10])

    def test_the_smallest_of_all_lists_with_these_results(self):
        for rules in small_settled_lists():
            self.check(rules, smallest_by_definition(given_results(rules, FEW_CASES)))

    def test_lists_of_many_rules(self):
        smaller = 0
        for rules in settled_lists():
            found = least(Rules(*rules))
            self.assertEqual(found.rules, by_size(found.rules))
            self.assertLessEqual(set(found.rules), set(rules))
            self.assertTrue(found.settled)
            self.assertEqual(given_results(found.rules, MANY_CASES), given_results(rules, MANY_CASES))
            # Without any one of its rules it would not be a settled list with these results.
            for rule in found.rules:
                others = [other for other in found.rules if other != rule]
                self.assertNotEqual(given_results(others, MANY_CASES), given_results(rules, MANY_CASES))
            smaller += len(found) < len(rules)
        self.assertGreater(smaller, 30)

    def test_settled_lists_between(self):
        between = 0
        for rules in [rules for rules in settled_lists() if 3 <= len(rules) <= 8]:
            kept = least(Rules(*rules)).rules
            others = [rule for rule in rules if rule not in kept]
            for size in range(len(others)):
                for chosen in itertools.combinations(others, size):
                    if Rules(*kept, *chosen).settled:
                        self.assertEqual(given_results(kept + chosen, MANY_CASES), given_results(rules, MANY_CASES))
                        between += size > 0
        self.assertGreater(between, 10)

    def test_torn_lists(self):
        for rules in ((A, B, C), (A, ((), 2)), (B, C, (D[0] + ((2, 0),), 2)), TWELVE):
            self.assertRaises(Torn, least, Rules(*rules))

    def test_wrong_arguments(self):
        for thing in wrong_lists(Rules):
            self.assertRaises(NotRules, least, thing)


class SameTest(unittest.TestCase):
    def check(self, one, other, expected):
        first, second = Rules(*one), Rules(*other)
        for left, right in ((first, second), (second, first)):
            self.assertEqual(repr(same(left, right)), repr(expected))
            self.assertEqual(same(left, right), expected)
            self.assertIs(shows_same(left, right, expected), True)
        self.assertEqual((first.rules, second.rules), (one, other))

    def test_the_same_results(self):
        for one, other in (
            ((), ()), ((A,), (A,)), ((A, B), (B, A)), ((A, (((0, 3),), 1)), (A,)), ((A, B, D), (A, B)),
            ((A, B, C, D), (D, C, B, A)), (SETTLED_TWELVE, SETTLED_TWELVE[::-1]), (LIKE_TWELVE, (((), 7),)),
        ):
            self.check(one, other, ("same",))

    def test_different_results(self):
        self.check((), (A,), ("different", ()))
        self.check((A,), (((), 2),), ("different", ()))
        self.check((A,), (A, B), ("different", ((0, 3),)))
        self.check((A, B), (A, (((0, 3),), 3)), ("different", ((0, 3),)))
        self.check((A, B, C, D), (A, B, C, (D[0], 4)), ("different", D[0]))
        self.check((A, B), (A, D), ("different", ((0, 3),)))
        self.check((), SETTLED_TWELVE, ("different", ()))

    def test_the_fewest_conditions_then_the_first(self):
        self.check((A, B), (A, C), ("different", ((0, 3),)))
        self.check((A, C), (A, D), ("different", ((1, 5),)))
        self.check((A, (((0, 3), (1, 5)), 2)), (A, (((4, 9),), 3), (((2, 0),), 3)), ("different", ((2, 0),)))
        self.check((A, (((4, 0),), 2)), (A, (((0, 9), (1, 9)), 2), (((4, 0),), 2)), ("different", ((0, 9), (1, 9))))
        self.check((A, (((0, 4),), 3)), (A, (((0, 3),), 9)), ("different", ((0, 3),)))
        self.check((A, (((0, 2),), 3)), (A, (((0, 2),), 9)), ("different", ((0, 2),)))

    def test_only_the_smallest_lists_count(self):
        # The rule for 0=3 changes nothing there, so the lists part at 1=5 only.
        self.check((A, (((0, 3),), 1)), (A, C), ("different", ((1, 5),)))

    def test_exactly_lists_with_the_same_results(self):
        lists = small_settled_lists()[::5]
        counts = {"same": 0, "different": 0}
        for one, other in itertools.product(lists, lists):
            mine = smallest_by_definition(given_results(one, FEW_CASES))
            theirs = smallest_by_definition(given_results(other, FEW_CASES))
            apart = by_size(set(mine) ^ set(theirs))
            found = same(Rules(*one), Rules(*other))
            self.assertEqual(found, ("different", apart[0][0]) if apart else ("same",))
            equal = given_results(one, FEW_CASES) == given_results(other, FEW_CASES)
            self.assertEqual(found[0] == "same", equal)
            counts[found[0]] += one != other
        self.assertGreater(min(counts.values()), 20)

    def test_the_case_tells_the_lists_apart(self):
        lists = settled_lists()[::9]
        for one, other in itertools.product(lists[::2], lists[1::2]):
            found = same(Rules(*one), Rules(*other))
            if found[0] == "different":
                self.assertNotEqual(results_by_definition(one, found[1]), results_by_definition(other, found[1]))
                self.assertIs(shows_same(Rules(*one), Rules(*other), found), True)
            else:
                self.assertEqual(given_results(one, MANY_CASES), given_results(other, MANY_CASES))

    def test_torn_lists(self):
        for one, other in ((TORN, Rules()), (Rules(), TORN), (TORN, TORN), (Rules(A), Rules(*TWELVE))):
            self.assertRaises(Torn, same, one, other)
            for thing in (("same",), ("different", ()), None):
                self.assertRaises(Torn, shows_same, one, other, thing)

    def test_wrong_arguments_are_found_ahead_of_torn_lists(self):
        for thing in wrong_lists(Rules):
            for listing in (Rules(), Rules(A, B), TORN):
                self.assertRaises(NotRules, same, thing, listing)
                self.assertRaises(NotRules, same, listing, thing)
                self.assertRaises(NotRules, shows_same, thing, listing, ("same",))
                self.assertRaises(NotRules, shows_same, listing, thing, ("same",))
                self.assertRaises(NotRules, shows_same, listing, thing, None)
            self.assertRaises(NotRules, same, thing, thing)
            self.assertRaises(NotRules, shows_same, thing, thing, thing)


class ShowsSameTest(unittest.TestCase):
    def test_same(self):
        for one, other, expected in (
            ((), (), True), ((A, B, D), (B, A), True), ((A,), (B,), False), ((A,), (A, B), False), ((), (A,), False),
            ((A, B, C, D), (A, B, C, (D[0], 4)), False), (SETTLED_TWELVE, SETTLED_TWELVE[::-1], True),
        ):
            self.assertIs(shows_same(Rules(*one), Rules(*other), ("same",)), expected)

    def test_any_case_with_different_results(self):
        one, other = Rules(A, B), Rules(A, C)
        for case in (((0, 3),), ((1, 5),), ((0, 3), (1, 5)), ((0, 3), (2, 2)), ((0, 4), (1, 5), (4, 4))):
            self.assertIs(shows_same(one, other, ("different", case)), True)
            self.assertIs(shows_same(other, one, ("different", case)), True)
            self.assertIs(shows_same(one, one, ("different", case)), False)
        for case in ((), ((0, 4),), ((2, 2),), ((0, 0), (1, 1), (2, 2), (3, 3), (4, 4))):
            self.assertIs(shows_same(one, other, ("different", case)), False)

    def test_a_case_without_a_result(self):
        self.assertIs(shows_same(Rules(B), Rules(), ("different", ((0, 3),))), True)
        self.assertIs(shows_same(Rules(B), Rules(), ("different", ())), False)

    def test_all_cases(self):
        lists = small_settled_lists()[::7]
        for one, other in itertools.product(lists[::3], lists):
            for case in FEW_CASES + [((2, 2),), ((0, 1), (4, 0))]:
                expected = results_by_definition(one, case) != results_by_definition(other, case)
                self.assertIs(shows_same(Rules(*one), Rules(*other), ("different", case)), expected)

    def test_wrong_cases(self):
        for thing in WRONG_CASES:
            self.assertIs(shows_same(Rules(A), Rules(), ("different", thing)), False)
        self.assertIs(shows_same(Rules(A), Rules(), ("different", ((4, 9),))), True)

    def test_other_values(self):
        lists = (Rules(), Rules(A, B), Rules(A, B, D), Rules(A, B, C, D))
        for one, other in itertools.product(lists, lists):
            for thing in OTHER_VALUES + WRONG_RULES + (
                one, (one,), ("different", one), ["same"], "same", ("same", ()), ("same", "same"), ("Same",), ("different",),
                ("different", (), ()), ["different", ()], ("different", None), (("same",),), ({"same": 1},), (Ordered(),),
            ):
                before = repr(thing)
                self.assertIs(shows_same(one, other, thing), False)
                self.assertEqual(repr(thing), before)

    def test_changed_values(self):
        shown = []
        for one, other in (((A, B), (A, C)), ((A, B), (A, B, D)), ((A,), ()), ((A, B, C, D), (A, B, C, (D[0], 1)))):
            for thing in variants(same(Rules(*one), Rules(*other))):
                expected = shown_by_definition(one, other, thing)
                self.assertIs(shows_same(Rules(*one), Rules(*other), thing), expected, thing)
                shown.append(expected)
        self.assertGreater(shown.count(True), 3)

    def test_long_values(self):
        for parts in (((0, 3),) * 2000, ((),) * 7000, tuple(range(7000)), ("same",) * 7000):
            self.assertIs(shows_same(Rules(A), Rules(), ("different", parts)), False)
            self.assertIs(shows_same(Rules(A), Rules(A), parts), False)


class DefinitionTest(unittest.TestCase):
    def test_one_list_only_lies_in_all_others(self):
        for rules in small_settled_lists()[::4]:
            found = lists_with_results(given_results(rules, FEW_CASES))
            within = [one for one in found if all(one <= other for other in found)]
            self.assertEqual([by_size(one) for one in within], [least(Rules(*rules)).rules])
            self.assertIn(frozenset(rules), found)


if __name__ == "__main__":
    unittest.main()
