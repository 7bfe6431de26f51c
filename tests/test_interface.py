"""The interface: names, arguments, where they are defined, and which exception comes first."""

import doctest
import inspect
import pathlib
import unittest

from closestrule import listings, verdicts
from closestrule.errors import NoCase, NotOrdered, NotRules
from closestrule.listings import Listing, Ordered, Rules
from closestrule.verdicts import cases, deciding, shows_verdict, verdict
from tests.samples import THIRTEEN, TWELVE

README = pathlib.Path(__file__).resolve().parent.parent / "README.md"
COMMON = ("__init__", "rules", "__len__", "__contains__", "__add__", "text", "read", "__eq__", "__repr__")


class DefinitionsTest(unittest.TestCase):
    def test_each_class_defines_its_methods_itself(self):
        for kind, names in ((Listing, COMMON), (Rules, COMMON + ("settled", "__call__")), (Ordered, COMMON + ("__call__",))):
            for name in names:
                with self.subTest((kind, name)):
                    self.assertIn(name, vars(kind))

    def test_each_name_is_defined_in_its_file(self):
        for module, names in (
            (listings, ("Listing", "Rules", "Ordered")), (verdicts, ("deciding", "verdict", "shows_verdict", "cases")),
        ):
            for name in names:
                self.assertEqual(getattr(module, name).__module__, module.__name__)

    def test_properties_and_class_methods(self):
        for kind in (Listing, Rules, Ordered):
            self.assertIsInstance(vars(kind)["rules"], property)
            self.assertIsInstance(vars(kind)["read"], classmethod)
        self.assertIsInstance(vars(Rules)["settled"], property)

    def test_the_arguments(self):
        for function, names in (
            (deciding, ["rules", "case"]), (verdict, ["rules"]), (shows_verdict, ["rules", "thing"]), (cases, ["rules"]),
            (Rules.read, ["text"]), (Ordered.read, ["text"]), (Rules(), ["case"]), (Ordered(), ["case"]),
            (Rules().text, []), (Rules, ["rules"]), (Ordered, ["rules"]), (Listing, ["rules"]),
        ):
            self.assertEqual(list(inspect.signature(function).parameters), names)


class FirstExceptionTest(unittest.TestCase):
    def test_arguments_from_left_to_right(self):
        self.assertRaises(NotRules, deciding, None, None)
        self.assertRaises(NotRules, deciding, (), ())
        self.assertRaises(NotRules, deciding, Ordered(), ((5, 5),))
        self.assertRaises(NoCase, deciding, Rules(), Rules())

    def test_arguments_ahead_of_too_many(self):
        with self.assertRaises(NotRules):
            Rules(*TWELVE) + Ordered(*THIRTEEN[2:])
        with self.assertRaises(NotRules):
            Rules(*TWELVE) + THIRTEEN
        with self.assertRaises(NotOrdered):
            Ordered(*TWELVE) + Rules(*THIRTEEN[2:])
        with self.assertRaises(NotOrdered):
            Ordered(*TWELVE) + list(THIRTEEN)

    def test_two_wrong_values(self):
        self.assertRaises(NotRules, shows_verdict, None, None)


class SessionTest(unittest.TestCase):
    def test_the_session_of_the_document(self):
        torn = Rules(((), 1), (((0, 3),), 2), (((1, 5),), 4))
        self.assertEqual(torn(((0, 3),)), (2,))
        self.assertEqual(torn(((0, 3), (1, 5))), (2, 4))
        self.assertEqual(verdict(torn), ("torn", 1, 2, ((0, 3), (1, 5))))
        whole = torn + Rules((((0, 3), (1, 5)), 2))
        self.assertEqual(verdict(whole), ("settled", ((1, 2, 3),)))
        self.assertEqual(deciding(whole, ((0, 3), (1, 5), (2, 0))), ((((0, 3), (1, 5)), 2),))

    def test_the_session_of_the_readme(self):
        failed, tried = doctest.testfile(str(README), module_relative=False)
        self.assertEqual(failed, 0)
        self.assertGreater(tried, 5)


if __name__ == "__main__":
    unittest.main()
