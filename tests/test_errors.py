"""closestrule.errors: the classes and what they are raised with."""

import unittest

from closestrule import errors
from closestrule.listings import Ordered, Rules
from closestrule.verdicts import cases, deciding, shows_verdict, verdict
from tests.samples import THIRTEEN

NAMES = (
    "NoRules", "NoRule", "NoCase", "NoNumber", "NoText", "NotRules", "NotOrdered", "TooMany", "Known", "NotThere",
    "Torn", "NothingDone",
)


class ErrorsTest(unittest.TestCase):
    def test_rule_error_is_a_value_error(self):
        self.assertEqual(errors.RuleError.__bases__, (ValueError,))

    def test_twelve_direct_subclasses(self):
        for name in NAMES:
            with self.subTest(name):
                self.assertEqual(getattr(errors, name).__bases__, (errors.RuleError,))
        self.assertEqual({kind.__name__ for kind in errors.RuleError.__subclasses__()}, set(NAMES))

    def test_all_are_defined_in_the_file(self):
        for name in ("RuleError",) + NAMES:
            self.assertEqual(getattr(errors, name).__module__, "closestrule.errors")

    def test_each_is_raised_with_a_message(self):
        calls = (
            (errors.NoRules, lambda: Rules(1)),
            (errors.NoRules, lambda: Ordered(1)),
            (errors.NoCase, lambda: Rules()(1)),
            (errors.NoCase, lambda: Ordered()(1)),
            (errors.NoCase, lambda: deciding(Rules(), 1)),
            (errors.NoText, lambda: Rules.read(1)),
            (errors.NoText, lambda: Rules.read("x")),
            (errors.NotRules, lambda: Rules() + 1),
            (errors.NotOrdered, lambda: Ordered() + 1),
            (errors.NotRules, lambda: deciding(1, ())),
            (errors.NotRules, lambda: verdict(1)),
            (errors.NotRules, lambda: shows_verdict(1, 1)),
            (errors.NotRules, lambda: list(cases(1))),
            (errors.TooMany, lambda: Rules(*THIRTEEN[:7]) + Rules(*THIRTEEN[7:])),
        )
        for kind, call in calls:
            with self.assertRaises(kind) as caught:
                call()
            self.assertIs(type(caught.exception), kind)
            self.assertIsInstance(caught.exception, errors.RuleError)
            self.assertIsInstance(caught.exception.args[0], str)
            self.assertNotEqual(str(caught.exception), "")


if __name__ == "__main__":
    unittest.main()
