"""Point [11]: lists of rules, apart from their texts."""

import copy
import unittest

from closestrule.errors import NoRules, NotOrdered, NotRules, TooMany
from closestrule.listings import Listing, Ordered, Rules
from tests.samples import OTHER_VALUES, RIGHT_RULES, THIRTEEN, TWELVE, WRONG_RULES, wrong_lists

A = ((), 1)
B = (((0, 3),), 2)
C = (((1, 5),), 4)
D = (((0, 3), (1, 5)), 2)
KINDS = (Rules, Ordered)


class MakingTest(unittest.TestCase):
    def test_both_are_listings(self):
        for kind in KINDS:
            self.assertTrue(issubclass(kind, Listing))
            self.assertIsInstance(kind(), Listing)
        self.assertFalse(issubclass(Rules, Ordered) or issubclass(Ordered, Rules))

    def test_rules_and_len(self):
        for kind in KINDS:
            for rules in ((), (A,), (B, A), (C, B, A, D), TWELVE, TWELVE[::-1]):
                listing = kind(*rules)
                self.assertIs(type(listing.rules), tuple)
                self.assertEqual(listing.rules, rules)
                self.assertEqual(len(listing), len(rules))

    def test_more_than_twelve_rules(self):
        self.assertEqual(len(set(THIRTEEN)), 13)
        for kind in KINDS:
            self.assertRaises(NoRules, kind, *THIRTEEN)
            self.assertRaises(NoRules, kind, *THIRTEEN, *THIRTEEN)
            self.assertRaises(NoRules, kind, *RIGHT_RULES)

    def test_a_rule_twice(self):
        for kind in KINDS:
            for rules in ((A, A), (A, B, A), (B, A, A), TWELVE[:11] + TWELVE[:1]):
                self.assertRaises(NoRules, kind, *rules)

    def test_the_same_conditions_with_different_results(self):
        for kind in KINDS:
            self.assertEqual(kind(A, ((), 2)).rules, (A, ((), 2)))
            self.assertEqual(kind(B, (((0, 3),), 3), A).rules, (B, (((0, 3),), 3), A))

    def test_a_listing_does_not_change(self):
        for kind in KINDS:
            listing = kind(A, B)
            with self.assertRaises(AttributeError):
                listing.rules = (C,)
            self.assertEqual(listing.rules, (A, B))


class MembersTest(unittest.TestCase):
    def test_in(self):
        for kind in KINDS:
            listing = kind(A, B, D)
            for rule in (A, B, D):
                self.assertIs(rule in listing, True)
            for rule in (C, ((), 2), (((0, 3),), 1), (((0, 4),), 2), (((0, 3), (2, 5)), 2)):
                self.assertIs(rule in listing, False)
                self.assertIs(rule in kind(), False)

    def test_in_with_any_value(self):
        for kind in KINDS:
            for thing in WRONG_RULES + (kind(A, B), (A, B), [A], (A,), A[0], list(A), (B[0], [2]), ([(0, 3)], 2)):
                self.assertIs(thing in kind(A, B), False)


class EqualityTest(unittest.TestCase):
    def test_the_same_rules(self):
        for kind in KINDS:
            for rules in ((), (A,), (A, B, C, D), TWELVE):
                self.assertIs(kind(*rules) == kind(*rules), True)
                self.assertIs(kind(*rules) != kind(*rules), False)

    def test_the_order_matters_for_ordered_only(self):
        for one, other in (((A, B), (B, A)), ((A, B, C), (B, C, A)), (TWELVE, TWELVE[::-1])):
            self.assertIs(Rules(*one) == Rules(*other), True)
            self.assertIs(Rules(*one) != Rules(*other), False)
            self.assertIs(Ordered(*one) == Ordered(*other), False)
            self.assertIs(Ordered(*one) != Ordered(*other), True)

    def test_other_rules(self):
        for kind in KINDS:
            for one, other in (((), (A,)), ((A,), (B,)), ((A, B), (A,)), ((A, B), (A, C)), ((A,), (((), 2),))):
                self.assertIs(kind(*one) == kind(*other), False)
                self.assertIs(kind(*other) == kind(*one), False)
                self.assertIs(kind(*one) != kind(*other), True)

    def test_the_other_kind(self):
        for rules in ((), (A,), (A, B)):
            self.assertIs(Rules(*rules) == Ordered(*rules), False)
            self.assertIs(Ordered(*rules) == Rules(*rules), False)
            self.assertIs(Rules(*rules) != Ordered(*rules), True)

    def test_any_value(self):
        for kind in KINDS:
            for rules in ((), (A,), (A, B)):
                listing = kind(*rules)
                for thing in wrong_lists(kind) + (rules, list(rules), listing.text(), repr(listing), len(listing)):
                    self.assertIs(listing == thing, False)
                    self.assertIs(thing == listing, False)
                    self.assertIs(listing != thing, True)


class ReprTest(unittest.TestCase):
    def test_repr(self):
        self.assertEqual(repr(Rules()), "Rules(0 rules)")
        self.assertEqual(repr(Rules(A)), "Rules(1 rules)")
        self.assertEqual(repr(Rules(A, B, C, D)), "Rules(4 rules)")
        self.assertEqual(repr(Rules(*TWELVE)), "Rules(12 rules)")
        self.assertEqual(repr(Ordered()), "Ordered(0 rules)")
        self.assertEqual(repr(Ordered(A)), "Ordered(1 rules)")
        self.assertEqual(repr(Ordered(*TWELVE)), "Ordered(12 rules)")


class PlusTest(unittest.TestCase):
    def check(self, one, other, rules):
        for kind in KINDS:
            first, second = kind(*one), kind(*other)
            both = first + second
            self.assertIs(type(both), kind)
            self.assertEqual(both.rules, rules)
            self.assertEqual((first.rules, second.rules), (one, other))

    def test_rules_of_one_and_behind_them_those_of_other(self):
        self.check((), (), ())
        self.check((A,), (), (A,))
        self.check((), (A, B), (A, B))
        self.check((B, A), (D, C), (B, A, D, C))
        self.check((A,), (((), 2),), (A, ((), 2)))

    def test_common_rules(self):
        self.check((A,), (A,), (A,))
        self.check((A, B), (C, B, D, A), (A, B, C, D))
        self.check((B, A), (A, C, B), (B, A, C))

    def test_just_twelve_rules(self):
        self.check(TWELVE, (), TWELVE)
        self.check((), TWELVE, TWELVE)
        self.check(TWELVE[:6], TWELVE[6:], TWELVE)
        self.check(TWELVE, TWELVE[::-1], TWELVE)
        self.check(TWELVE[:8], TWELVE[4:], TWELVE)

    def test_more_than_twelve_rules(self):
        for kind in KINDS:
            for one, other in (
                (TWELVE, THIRTEEN[12:]), (THIRTEEN[12:], TWELVE), (THIRTEEN[:7], THIRTEEN[7:]), (TWELVE, THIRTEEN[1:]),
            ):
                first, second = kind(*one), kind(*other)
                with self.assertRaises(TooMany):
                    first + second
                self.assertEqual((first.rules, second.rules), (one, other))

    def test_other_values(self):
        for kind, error in ((Rules, NotRules), (Ordered, NotOrdered)):
            for listing in (kind(), kind(A), kind(*TWELVE)):
                for thing in wrong_lists(kind):
                    with self.assertRaises(error):
                        listing + thing

    def test_the_kind_is_checked_ahead_of_the_number(self):
        with self.assertRaises(NotRules):
            Rules(*TWELVE) + Ordered(*THIRTEEN[1:])
        with self.assertRaises(NotOrdered):
            Ordered(*TWELVE) + Rules(*THIRTEEN[1:])


class ListingTest(unittest.TestCase):
    """What the two kinds have in common holds for the base class, too, though callers do not make one."""

    def test_the_common_parts(self):
        listing = Listing(A, B)
        self.assertEqual((listing.rules, len(listing)), ((A, B), 2))
        self.assertEqual((A in listing, C in listing, (True, 1) in listing), (True, False, False))
        self.assertEqual((listing == Listing(A, B), listing == Listing(B, A), listing == (A, B)), (True, False, False))
        self.assertEqual((listing == Rules(A, B), Ordered(A, B) == listing), (False, False))
        self.assertEqual(repr(listing), "Listing(2 rules)")
        self.assertEqual(Listing.read(listing.text()), listing)
        self.assertRaises(NoRules, Listing, *THIRTEEN)

    def test_plus(self):
        both = Listing(B, A) + Listing(A, C)
        self.assertIs(type(both), Listing)
        self.assertEqual(both.rules, (B, A, C))
        for thing in OTHER_VALUES:
            with self.assertRaises(NotRules):
                Listing(A) + thing


class ArgumentsTest(unittest.TestCase):
    def test_arguments_are_not_modified(self):
        for kind in KINDS:
            for thing in OTHER_VALUES + WRONG_RULES:
                before = repr(thing)
                listing = kind(A, B)
                answers = (thing in listing, listing == thing)
                self.assertEqual(answers, (thing in listing, listing == thing))
                self.assertRaises(NoRules, kind, thing)
                self.assertEqual(repr(thing), before)
                self.assertEqual(listing.rules, (A, B))

    def test_a_copied_rule_is_the_same_rule(self):
        for kind in KINDS:
            self.assertTrue(copy.deepcopy(D) in kind(A, D))


if __name__ == "__main__":
    unittest.main()
