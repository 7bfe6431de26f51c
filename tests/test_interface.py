"""The interface: names, arguments, where they are defined, and which exception comes first."""

import doctest
import inspect
import pathlib
import unittest

from closestrule import books, listings, orders, smallest, verdicts
from closestrule.books import Book, Settled, SettledSmall, Small
from closestrule.errors import NoCase, NotOrdered, NotRules, Torn
from closestrule.listings import Listing, Ordered, Rules
from closestrule.orders import closest, in_order, never
from closestrule.smallest import least, same, shows_same
from closestrule.verdicts import cases, deciding, shows_verdict, verdict
from tests.samples import (
    THIRTEEN, TWELVE, deciding_by_definition, matter_by_definition, results_by_definition, settled_lists,
    verdict_by_definition,
)

README = pathlib.Path(__file__).resolve().parent.parent / "README.md"
COMMON = ("__init__", "rules", "__len__", "__contains__", "__add__", "text", "read", "__eq__", "__repr__")
BOOKS = (
    "__init__", "listing", "assign_listing", "add", "__call__", "drop", "watch", "watched", "results", "changes", "undo",
    "trying", "__len__", "__repr__",
)
SESSION = """
>>> from closestrule.listings import Rules
>>> from closestrule.verdicts import deciding, verdict
>>> from closestrule.smallest import least
>>> torn = Rules(((), 1), (((0, 3),), 2), (((1, 5),), 4))
>>> torn(((0, 3),))
(2,)
>>> torn(((0, 3), (1, 5)))
(2, 4)
>>> verdict(torn)
('torn', 1, 2, ((0, 3), (1, 5)))
>>> whole = torn + Rules((((0, 3), (1, 5)), 2))
>>> verdict(whole)
('settled', ((1, 2, 3),))
>>> deciding(whole, ((0, 3), (1, 5), (2, 0)))
((((0, 3), (1, 5)), 2),)
>>> least(whole) == whole
True
"""


class DefinitionsTest(unittest.TestCase):
    def test_each_class_defines_its_methods_itself(self):
        for kind, names in (
            (Listing, COMMON), (Rules, COMMON + ("settled", "__call__")), (Ordered, COMMON + ("__call__",)),
            (Book, BOOKS), (Settled, BOOKS), (Small, BOOKS + ("most",)), (SettledSmall, BOOKS + ("most",)),
        ):
            for name in names:
                with self.subTest((kind, name)):
                    self.assertIn(name, vars(kind))

    def test_each_name_is_defined_in_its_file(self):
        for module, names in (
            (listings, ("Listing", "Rules", "Ordered")), (verdicts, ("deciding", "verdict", "shows_verdict", "cases")),
            (smallest, ("least", "same", "shows_same")), (orders, ("never", "in_order", "closest")),
            (books, ("Book", "Settled", "Small", "SettledSmall")),
        ):
            for name in names:
                self.assertEqual(getattr(module, name).__module__, module.__name__)

    def test_properties_and_class_methods(self):
        for kind in (Listing, Rules, Ordered):
            self.assertIsInstance(vars(kind)["rules"], property)
            self.assertIsInstance(vars(kind)["read"], classmethod)
        self.assertIsInstance(vars(Rules)["settled"], property)
        for kind in (Book, Settled, Small, SettledSmall):
            for name in ("listing", "watched", "results", "changes"):
                self.assertIsInstance(vars(kind)[name], property)
            self.assertIsNotNone(vars(kind)["listing"].fset)
        for kind in (Small, SettledSmall):
            self.assertIsInstance(vars(kind)["most"], property)

    def test_the_arguments(self):
        for function, names in (
            (deciding, ["rules", "case"]), (verdict, ["rules"]), (shows_verdict, ["rules", "thing"]), (cases, ["rules"]),
            (Rules.read, ["text"]), (Ordered.read, ["text"]), (Rules(), ["case"]), (Ordered(), ["case"]),
            (Rules().text, []), (Rules, ["rules"]), (Ordered, ["rules"]), (Listing, ["rules"]),
            (least, ["rules"]), (same, ["one", "other"]), (shows_same, ["one", "other", "thing"]),
            (never, ["ordered"]), (in_order, ["rules"]), (closest, ["ordered"]),
            (Book, ["rules"]), (Settled, ["rules"]), (Small, ["rules", "most"]), (SettledSmall, ["rules", "most"]),
        ):
            self.assertEqual(list(inspect.signature(function).parameters), names)

    def test_the_arguments_of_a_book(self):
        for kind in (Book, Settled, Small, SettledSmall):
            book = kind(Rules())
            for function, names in (
                (book, ["rule"]), (book.add, ["rule"]), (book.drop, ["rule"]), (book.watch, ["case"]), (book.undo, []),
                (book.trying, []), (book.assign_listing, ["rules"]),
            ):
                self.assertEqual(list(inspect.signature(function).parameters), names)

    def test_arguments_by_their_names(self):
        book = Small(rules=Rules(), most=3)
        book.add(rule=((), 1))
        book(rule=(((0, 3),), 2))
        book.drop(rule=((), 1))
        book.watch(case=())
        book.assign_listing(rules=Rules(((), 5)))
        self.assertEqual((book.listing.rules, book.results, book.most), ((((), 5),), ((5,),), 3))
        self.assertEqual(same(one=Rules(), other=Rules()), ("same",))
        self.assertIs(shows_same(one=Rules(), other=Rules(), thing=("same",)), True)
        self.assertEqual((least(rules=Rules()), closest(ordered=Ordered())), (Rules(), Rules()))
        self.assertEqual((in_order(rules=Rules()), never(ordered=Ordered())), (Ordered(), ()))


class FirstExceptionTest(unittest.TestCase):
    def test_arguments_from_left_to_right(self):
        self.assertRaises(NotRules, deciding, None, None)
        self.assertRaises(NotRules, deciding, (), ())
        self.assertRaises(NotRules, deciding, Ordered(), ((5, 5),))
        self.assertRaises(NoCase, deciding, Rules(), Rules())

    def test_arguments_ahead_of_too_many(self):
        with self.assertRaises(NotRules):
            Rules(*TWELVE) + Ordered(*THIRTEEN[2:])
        with self.assertRaises(NotRules):
            Rules(*TWELVE) + THIRTEEN
        with self.assertRaises(NotOrdered):
            Ordered(*TWELVE) + Rules(*THIRTEEN[2:])
        with self.assertRaises(NotOrdered):
            Ordered(*TWELVE) + list(THIRTEEN)

    def test_two_wrong_values(self):
        self.assertRaises(NotRules, shows_verdict, None, None)
        self.assertRaises(NotRules, shows_same, None, None, None)

    def test_arguments_ahead_of_torn(self):
        torn = Rules(((), 1), ((), 2))
        for one, other in ((torn, None), (None, torn), (torn, Ordered()), (Ordered(), torn)):
            self.assertRaises(NotRules, same, one, other)
            self.assertRaises(NotRules, shows_same, one, other, ("same",))
        self.assertRaises(Torn, same, torn, torn)
        self.assertRaises(NotRules, in_order, Ordered(((), 1), ((), 2)))
        self.assertRaises(NotOrdered, closest, torn)
        self.assertRaises(NotOrdered, never, torn)


class ListsFromElsewhereTest(unittest.TestCase):
    """What holds for a list that a caller makes holds for those that the program returns."""

    def check(self, listing):
        rules = listing.rules
        kind = type(listing)
        self.assertEqual(listing.rules, kind(*rules).rules)
        self.assertEqual(listing, kind(*rules))
        self.assertEqual(kind.read(listing.text()).rules, rules)
        self.assertEqual(repr(listing), f"{kind.__name__}({len(rules)} rules)")
        self.assertTrue(all(rule in listing for rule in rules))
        self.assertEqual((listing + kind()).rules, rules)
        self.assertEqual((kind() + listing).rules, rules)
        self.assertEqual((listing + kind(*rules[::-1])).rules, rules)
        if kind is Rules:
            self.check_verdicts(listing)

    def check_verdicts(self, listing):
        rules = listing.rules
        found = verdict(listing)
        self.assertEqual(found, verdict_by_definition(rules))
        self.assertTrue(shows_verdict(listing, found))
        self.assertIs(listing.settled, found[0] == "settled")
        self.assertEqual(list(cases(listing)), matter_by_definition(rules))
        for case in cases(listing):
            self.assertEqual(deciding(listing, case), deciding_by_definition(rules, case))
            self.assertEqual(listing(case), results_by_definition(rules, case))

    def test_all_of_them(self):
        for rules in settled_lists()[::6]:
            listing = Rules(*rules)
            book = Settled(listing)
            self.check(least(listing))
            self.check(in_order(listing))
            self.check(closest(in_order(listing)))
            book.listing = least(book.listing)
            self.check(book.listing)
            for rule in book.listing.rules:
                book.drop(rule)
                self.check(book.listing)


class SessionTest(unittest.TestCase):
    def test_the_session_of_the_document(self):
        session = doctest.DocTestParser().get_doctest(SESSION, {}, "session", None, 0)
        failed, tried = doctest.DocTestRunner().run(session)
        self.assertEqual((failed, tried), (0, 11))

    def test_the_session_of_the_readme(self):
        failed, tried = doctest.testfile(str(README), module_relative=False)
        self.assertEqual(failed, 0)
        self.assertGreater(tried, 5)


if __name__ == "__main__":
    unittest.main()
