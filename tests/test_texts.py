"""Point [11]: text and read."""

import re
import unittest

from closestrule.errors import NoText
from closestrule.listings import Ordered, Rules
from tests.samples import RIGHT_RULES, THIRTEEN, TWELVE, every_list, wrong_lists

KINDS = (Rules, Ordered)
LINE = re.compile("(?:[0-4]=[0-9] )*gives (?:[0-9]|[1-9][0-9])")
SIGNS = "0123456789= \n\tgivesGx-+_."


def is_text(text):
    """Whether this is the text of a list, by the description of a line."""
    *lines, rest = text.split("\n")
    if rest or len(lines) > 12 or len(set(lines)) != len(lines) or not all(map(LINE.fullmatch, lines)):
        return False
    attributes = [re.findall("([0-4])=", line) for line in lines]
    return all(found == sorted(set(found)) for found in attributes)


def changed(text):
    """The text with one sign, word or line left out, replaced, repeated or added."""
    for at in range(len(text) + 1):
        yield text[:at] + text[at + 1:]
        for sign in SIGNS:
            yield text[:at] + sign + text[at:]
            yield text[:at] + sign + text[at + 1:]
    for gap in (" ", "\n"):
        parts = text.split(gap)
        for at, part in enumerate(parts):
            yield gap.join(parts[:at] + parts[at + 1:])
            yield gap.join(parts[:at] + [part] + parts[at:])
            for word in ("gives", "give", "0=3", "4=9", "3=10", "5=0", "-1=0", "01", "100", "+1", "1.0", "gives 3", ""):
                yield gap.join(parts[:at] + [word] + parts[at + 1:])
                yield gap.join(parts[:at] + [word] + parts[at:])
        for at in range(len(parts) - 1):
            yield gap.join(parts[:at] + [parts[at + 1], parts[at]] + parts[at + 2:])


class TextTest(unittest.TestCase):
    def test_the_lines(self):
        for kind in KINDS:
            self.assertEqual(kind().text(), "")
            self.assertEqual(kind(((), 1)).text(), "gives 1\n")
            self.assertEqual(kind((((0, 3), (1, 5)), 2)).text(), "0=3 1=5 gives 2\n")
            self.assertEqual(kind((((4, 9),), 99), ((), 0)).text(), "4=9 gives 99\ngives 0\n")
            self.assertEqual(kind(((), 0), (((4, 9),), 10)).text(), "gives 0\n4=9 gives 10\n")
            full = ((0, 0), (1, 1), (2, 2), (3, 3), (4, 4))
            self.assertEqual(kind((full, 5)).text(), "0=0 1=1 2=2 3=3 4=4 gives 5\n")

    def test_both_ways(self):
        for kind in KINDS:
            for rules in every_list() + [TWELVE] + [(rule,) for rule in RIGHT_RULES]:
                text = kind(*rules).text()
                self.assertIs(type(text), str)
                found = kind.read(text)
                self.assertIs(type(found), kind)
                self.assertEqual(found.rules, rules)


class ReadTest(unittest.TestCase):
    def check(self, text):
        for kind in KINDS:
            if is_text(text):
                found = kind.read(text)
                self.assertIs(type(found), kind)
                self.assertEqual(found.text(), text)
            else:
                with self.assertRaises(NoText, msg=repr(text)):
                    kind.read(text)

    def test_the_empty_text(self):
        self.assertEqual(Rules.read(""), Rules())
        self.assertEqual(Ordered.read(""), Ordered())

    def test_changed_texts(self):
        samples = (
            (), (((), 1),), ((((0, 3), (1, 5)), 2),), (((), 10), (((0, 3),), 9), (((1, 5), (4, 0)), 0)), TWELVE[9:],
        )
        for rules in samples:
            for text in changed(Rules(*rules).text()):
                self.check(text)

    def test_wrong_texts(self):
        for text in (
            "\n", " ", "gives", "gives \n", "gives\n", "gives 1", "gives 1\n\n", "\ngives 1\n", " gives 1\n", "gives 1 \n",
            "gives  1\n", "Gives 1\n", "gives 01\n", "gives 00\n", "gives 100\n", "gives -1\n", "gives +1\n", "gives 1.0\n",
            "gives 1_0\n", "gives one\n", "gives None\n", "gives True\n", "gives 1\r\n", "gives 1\r", "gives 1\tgives 2\n",
            "gives 1gives 2\n", "gives gives 1\n", "gives 1 2\n", "0=3\n", "0=3 2\n", "0=3gives 2\n", "0=3 gives2\n",
            "0=3  gives 2\n", "0=3, gives 2\n", "0=3 1=5\n", "0 =3 gives 2\n", "0= 3 gives 2\n", "0=3= gives 2\n",
            "0==3 gives 2\n", "0=3=4 gives 2\n", "=3 gives 2\n", "0= gives 2\n", "= gives 2\n", "0 gives 2\n", "03 gives 2\n",
            "5=3 gives 2\n", "-1=3 gives 2\n", "0=10 gives 2\n", "00=3 gives 2\n", "0=03 gives 2\n", "0=-1 gives 2\n",
            "1=5 0=3 gives 2\n", "0=3 0=3 gives 2\n", "0=3 0=4 gives 2\n", "gives 2 0=3\n", "gives 1\ngives 1\n",
            "0=3 gives 2\ngives 1\n0=3 gives 2\n", "Rules(4 rules)", "()", "gives \u0663\n", "gives \u00b2\n",
            "gives 1\x0bgives 2\n", "gives 1\x0c", "\u0660=3 gives 1\n", "gives 1\u2028", "x" * 2000, "gives 1\n" * 400,
        ):
            self.assertFalse(is_text(text))
            self.check(text)

    def test_twelve_and_thirteen_lines(self):
        lines = [Rules(rule).text() for rule in THIRTEEN]
        for kind in KINDS:
            self.assertEqual(kind.read("".join(lines[:12])).rules, TWELVE)
            self.assertRaises(NoText, kind.read, "".join(lines))

    def test_values_that_are_no_texts(self):
        for kind in KINDS:
            for thing in wrong_lists(kind) + (kind(), kind(((), 1)), ["gives 1\n"], ("gives 1\n",), {"gives 1\n": 1}):
                if not isinstance(thing, str) or not is_text(thing):
                    self.assertRaises(NoText, kind.read, thing)


if __name__ == "__main__":
    unittest.main()
