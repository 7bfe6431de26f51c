"""closestrule.errors: the classes and what they are raised with."""

import unittest

from closestrule import errors
from closestrule.books import Book, Settled, SettledSmall, Small
from closestrule.listings import Ordered, Rules
from closestrule.orders import closest, in_order, never
from closestrule.smallest import least, same, shows_same
from closestrule.verdicts import cases, deciding, shows_verdict, verdict
from tests.samples import THIRTEEN

NAMES = (
    "NoRules", "NoRule", "NoCase", "NoNumber", "NoText", "NotRules", "NotOrdered", "TooMany", "Known", "NotThere",
    "Torn", "NothingDone",
)
TORN = Rules(((), 1), ((), 2))


class ErrorsTest(unittest.TestCase):
    def test_rule_error_is_a_value_error(self):
        self.assertEqual(errors.RuleError.__bases__, (ValueError,))

    def test_twelve_direct_subclasses(self):
        for name in NAMES:
            with self.subTest(name):
                self.assertEqual(getattr(errors, name).__bases__, (errors.RuleError,))
        self.assertEqual({kind.__name__ for kind in errors.RuleError.__subclasses__()}, set(NAMES))

    def test_all_are_defined_in_the_file(self):
        for name in ("RuleError",) + NAMES:
            self.assertEqual(getattr(errors, name).__module__, "closestrule.errors")

    def test_each_is_raised_with_a_message(self):
        calls = (
            (errors.NoRules, lambda: Rules(1)),
            (errors.NoRules, lambda: Ordered(1)),
            (errors.NoCase, lambda: Rules()(1)),
            (errors.NoCase, lambda: Ordered()(1)),
            (errors.NoCase, lambda: deciding(Rules(), 1)),
            (errors.NoText, lambda: Rules.read(1)),
            (errors.NoText, lambda: Rules.read("x")),
            (errors.NotRules, lambda: Rules() + 1),
            (errors.NotOrdered, lambda: Ordered() + 1),
            (errors.NotRules, lambda: deciding(1, ())),
            (errors.NotRules, lambda: verdict(1)),
            (errors.NotRules, lambda: shows_verdict(1, 1)),
            (errors.NotRules, lambda: list(cases(1))),
            (errors.TooMany, lambda: Rules(*THIRTEEN[:7]) + Rules(*THIRTEEN[7:])),
            (errors.NotRules, lambda: least(1)),
            (errors.Torn, lambda: least(TORN)),
            (errors.NotRules, lambda: same(Rules(), 1)),
            (errors.Torn, lambda: same(Rules(), TORN)),
            (errors.NotRules, lambda: shows_same(1, Rules(), 1)),
            (errors.Torn, lambda: shows_same(TORN, Rules(), 1)),
            (errors.NotOrdered, lambda: never(1)),
            (errors.NotRules, lambda: in_order(1)),
            (errors.Torn, lambda: in_order(TORN)),
            (errors.NotOrdered, lambda: closest(1)),
            (errors.TooMany, lambda: closest(Ordered(*[(((at, 0),), at) for at in range(5)]))),
            (errors.NotRules, lambda: Book(1)),
            (errors.Torn, lambda: Settled(TORN)),
            (errors.NoNumber, lambda: Small(Rules(), 13)),
            (errors.TooMany, lambda: SettledSmall(TORN, 1)),
            (errors.NoRule, lambda: Book(Rules()).add(1)),
            (errors.Known, lambda: Book(Rules(((), 1)))(((), 1))),
            (errors.TooMany, lambda: Book(Rules(*THIRTEEN[:12])).add(THIRTEEN[12])),
            (errors.NoRule, lambda: Book(Rules()).drop(1)),
            (errors.NotThere, lambda: Book(Rules()).drop(((), 1))),
            (errors.NoCase, lambda: Book(Rules()).watch(1)),
            (errors.NothingDone, lambda: Book(Rules()).undo()),
        )
        self.assertEqual({kind.__name__ for kind, call in calls}, set(NAMES))
        for kind, call in calls:
            with self.assertRaises(kind) as caught:
                call()
            self.assertIs(type(caught.exception), kind)
            self.assertIsInstance(caught.exception, errors.RuleError)
            self.assertIsInstance(caught.exception.args[0], str)
            self.assertNotEqual(str(caught.exception), "")


if __name__ == "__main__":
    unittest.main()
