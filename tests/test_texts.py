"""Point [11]: text and read."""

import re
import time
import unittest

from closestrule.errors import NoText
from closestrule.listings import Ordered, Rules
from tests.samples import RIGHT_RULES, THIRTEEN, TWELVE, every_list, wrong_lists

KINDS = (Rules, Ordered)
LINE = re.compile("(?:[0-4]=[0-9] )*gives (?:[0-9]|[1-9][0-9])")
SIGNS = "0123456789= \n\tgivesGx-+_."
# A long text of a list: twelve rules with five conditions each.
LONG = "".join(f"0={number % 10} 1=5 2=9 3=7 4={number % 7} gives {88 + number}\n" for number in range(12))


def is_text(text):
    """Whether this is the text of a list, by the description of a line."""
    *lines, rest = text.split("\n")
    if rest or len(lines) > 12 or len(set(lines)) != len(lines) or not all(map(LINE.fullmatch, lines)):
        return False
    attributes = [re.findall("([0-4])=", line) for line in lines]
    return all(found == sorted(set(found)) for found in attributes)


def changed(text):
    """The text with one sign, word or line left out, replaced, repeated or added."""
    for at in range(len(text) + 1):
        yield text[:at] + text[at + 1:]
        for sign in SIGNS:
            yield text[:at] + sign + text[at:]
            yield text[:at] + sign + text[at + 1:]
    for gap in (" ", "\n"):
        parts = text.split(gap)
        for at, part in enumerate(parts):
            yield gap.join(parts[:at] + parts[at + 1:])
            yield gap.join(parts[:at] + [part] + parts[at:])
            for word in ("gives", "give", "0=3", "4=9", "3=10", "5=0", "-1=0", "01", "100", "+1", "1.0", "gives 3", ""):
                yield gap.join(parts[:at] + [word] + parts[at + 1:])
                yield gap.join(parts[:at] + [word] + parts[at:])
        for at in range(len(parts) - 1):
            yield gap.join(parts[:at] + [parts[at + 1], parts[at]] + parts[at + 2:])


class TextTest(unittest.TestCase):
    def test_the_lines(self):
        for kind in KINDS:
            self.assertEqual(kind().text(), "")
            self.assertEqual(kind(((), 1)).text(), "gives 1\n")
            self.assertEqual(kind((((0, 3), (1, 5)), 2)).text(), "0=3 1=5 gives 2\n")
            self.assertEqual(kind((((4, 9),), 99), ((), 0)).text(), "4=9 gives 99\ngives 0\n")
            self.assertEqual(kind(((), 0), (((4, 9),), 10)).text(), "gives 0\n4=9 gives 10\n")
            full = ((0, 0), (1, 1), (2, 2), (3, 3), (4, 4))
            self.assertEqual(kind((full, 5)).text(), "0=0 1=1 2=2 3=3 4=4 gives 5\n")

    def test_both_ways(self):
        for kind in KINDS:
            for rules in every_list() + [TWELVE] + [(rule,) for rule in RIGHT_RULES]:
                text = kind(*rules).text()
                self.assertIs(type(text), str)
                found = kind.read(text)
                self.assertIs(type(found), kind)
                self.assertEqual(found.rules, rules)


class ReadTest(unittest.TestCase):
    def check(self, text):
        for kind in KINDS:
            if is_text(text):
                found = kind.read(text)
                self.assertIs(type(found), kind)
                self.assertEqual(found.text(), text)
            else:
                with self.assertRaises(NoText, msg=repr(text)):
                    kind.read(text)

    def test_the_empty_text(self):
        self.assertEqual(Rules.read(""), Rules())
        self.assertEqual(Ordered.read(""), Ordered())

    def test_changed_texts(self):
        samples = (
            (), (((), 1),), ((((0, 3), (1, 5)), 2),), (((), 10), (((0, 3),), 9), (((1, 5), (4, 0)), 0)), TWELVE[9:],
        )
        for rules in samples:
            for text in changed(Rules(*rules).text()):
                self.check(text)

    def test_wrong_texts(self):
        for text in (
            "\n", " ", "gives", "gives \n", "gives\n", "gives 1", "gives 1\n\n", "\ngives 1\n", " gives 1\n", "gives 1 \n",
            "gives  1\n", "Gives 1\n", "gives 01\n", "gives 00\n", "gives 100\n", "gives -1\n", "gives +1\n", "gives 1.0\n",
            "gives 1_0\n", "gives one\n", "gives None\n", "gives True\n", "gives 1\r\n", "gives 1\r", "gives 1\tgives 2\n",
            "gives 1gives 2\n", "gives gives 1\n", "gives 1 2\n", "0=3\n", "0=3 2\n", "0=3gives 2\n", "0=3 gives2\n",
            "0=3  gives 2\n", "0=3, gives 2\n", "0=3 1=5\n", "0 =3 gives 2\n", "0= 3 gives 2\n", "0=3= gives 2\n",
            "0==3 gives 2\n", "0=3=4 gives 2\n", "=3 gives 2\n", "0= gives 2\n", "= gives 2\n", "0 gives 2\n", "03 gives 2\n",
            "5=3 gives 2\n", "-1=3 gives 2\n", "0=10 gives 2\n", "00=3 gives 2\n", "0=03 gives 2\n", "0=-1 gives 2\n",
            "1=5 0=3 gives 2\n", "0=3 0=3 gives 2\n", "0=3 0=4 gives 2\n", "gives 2 0=3\n", "gives 1\ngives 1\n",
            "0=3 gives 2\ngives 1\n0=3 gives 2\n", "Rules(4 rules)", "()", "gives \u0663\n", "gives \u00b2\n",
            "gives 1\x0bgives 2\n", "gives 1\x0c", "\u0660=3 gives 1\n", "gives 1\u2028", "x" * 2000, "gives 1\n" * 400,
            # Python refuses to make numbers of so many digits.
            "gives " + "9" * 5000 + "\n", "0=" + "9" * 5000 + " gives 1\n", "9" * 5000 + "=0 gives 1\n",
        ):
            self.assertFalse(is_text(text))
            self.check(text)

    def test_twelve_and_thirteen_lines(self):
        lines = [Rules(rule).text() for rule in THIRTEEN]
        for kind in KINDS:
            self.assertEqual(kind.read("".join(lines[:12])).rules, TWELVE)
            self.assertRaises(NoText, kind.read, "".join(lines))

    def test_every_number_in_each_place(self):
        names = [str(number) for number in range(0, 121)]
        for name in names:
            for line in (f"gives {name}\n", f"0=3 gives {name}\n", f"0=0 1=1 2=2 3=3 4=4 gives {name}\n"):
                self.check(line)
                self.assertEqual(is_text(line), int(name) < 100)
            for line in (f"{name}=3 gives 2\n", f"0={name} gives 2\n", f"4={name} gives 2\n"):
                self.check(line)
            for at in range(5):
                conditions = [f"{attribute}=7" for attribute in range(5)]
                for word in (f"{name}=7", f"{at}={name}"):
                    self.check(" ".join(conditions[:at] + [word] + conditions[at + 1:] + ["gives", "7\n"]))

    def test_every_condition_in_each_place(self):
        for attribute in range(5):
            for value in range(10):
                for kind in KINDS:
                    self.assertEqual(kind.read(f"{attribute}={value} gives 5\n").rules, ((((attribute, value),), 5),))
                conditions = tuple((at, value if at == attribute else 0) for at in range(5))
                text = "gives 0\n" + "".join(f"{at}={number} " for at, number in conditions) + "gives 99\n"
                self.assertEqual(Rules.read(text).rules, (((), 0), (conditions, 99)))

    def test_other_spellings_of_numbers(self):
        for number in (0, 1, 4, 9, 10, 42, 99):
            for name in (
                f"+{number}", f"-{number}", f" {number}", f"{number} ", f"0{number}", f"00{number}", f"{number}0 ", f"{number}.",
                f"{number}.0", f"{number}e0", f"0x{number}", f"_{number}", f"{number}_", f"\t{number}", f"{number}\t",
                f"{number}\r", f"({number})", f"{number}L", f"{number}00", f"{number}000", "", " ", "-", "+", "x", "None", "True",
                "\u0664", "\uff14", "\u00b2", "\u2463", "\u0be7", f"{number}\u0664", "\u0660" + str(number),
            ):
                for line in (f"gives {name}\n", f"0=3 gives {name}\n", f"{name}=3 gives 2\n", f"0={name} gives 2\n"):
                    self.assertFalse(is_text(line), line)
                    self.check(line)

    def test_other_conditions(self):
        for word in (
            "0", "03", "0:3", "0-3", "0 3", "=", "==", "=3", "0=", "0==3", "=0=3", "0=3=", "0=3=4", "0=3=3", "0= 3", "0 =3", "(0=3)",
            "0=3,", "0=3;", "a=3", "0=b", "0=3b", "a0=3", "00=3", "0=03", "0=33", "10=3", "5=3", "9=0", "-0=3", "0=-3", "", "gives",
        ):
            for line in (f"{word} gives 2\n", f"{word} 4=4 gives 2\n", f"0=1 {word} gives 2\n", f"0=1 {word} 4=4 gives 2\n"):
                self.assertFalse(is_text(line), line)
                self.check(line)

    def test_values_that_are_no_texts(self):
        for kind in KINDS:
            for thing in wrong_lists(kind) + (kind(), kind(((), 1)), ["gives 1\n"], ("gives 1\n",), {"gives 1\n": 1}):
                if not isinstance(thing, str) or not is_text(thing):
                    self.assertRaises(NoText, kind.read, thing)


class LongTextTest(unittest.TestCase):
    """Readings of long texts are counted in hundreds here: they took more than a thousandth of a second each."""

    def hurry(self, call):
        # On a busy machine a slow first try tells nothing; the quickest of three does.
        for attempt in range(3):
            start = time.perf_counter()
            for turn in range(500):
                call()
            taken = time.perf_counter() - start
            if taken < 0.3:
                return
        self.fail(f"500 readings took {taken} seconds")

    def refused(self, kind, text):
        with self.assertRaises(NoText):
            kind.read(text)

    def test_the_rules_of_the_long_text(self):
        rules = tuple(
            (((0, number % 10), (1, 5), (2, 9), (3, 7), (4, number % 7)), 88 + number) for number in range(12)
        )
        self.assertTrue(LONG.startswith("0=0 1=5 2=9 3=7 4=0 gives 88\n0=1 1=5 2=9 3=7 4=1 gives 89\n"))
        self.assertTrue(LONG.endswith("0=0 1=5 2=9 3=7 4=3 gives 98\n0=1 1=5 2=9 3=7 4=4 gives 99\n"))
        for kind in KINDS:
            self.assertEqual(kind.read(LONG).rules, rules)
            self.assertEqual(kind(*rules).text(), LONG)

    def test_hundreds_of_readings(self):
        for kind in KINDS:
            self.hurry(lambda: kind.read(LONG))

    def test_hundreds_of_texts_that_are_not_of_a_list(self):
        for text in (
            LONG[:-1], LONG + "\n", LONG[:-2] + "x\n", "x" + LONG[1:], LONG + LONG, LONG.replace("=", "=="), LONG.replace("=", ""),
            LONG.replace("gives 9", "gives 09"), LONG.replace("5", "-5"), LONG.replace(" ", "  "), LONG.replace("\n", " "),
            LONG[:-29] + LONG[:29], "gives 1\n" * 250, "\n" * 2000, " " * 1999 + "\n", "0=0 " * 498 + "gives 1\n", "9" * 2000,
            "gives " + "9" * 1990 + "\n", "0=" + "9" * 1980 + " gives 1\n", ("0=0 " * 38 + "gives 1\n") * 12, "=" * 1991 + " gives 1\n",
        ):
            for kind in KINDS:
                self.hurry(lambda: self.refused(kind, text))


if __name__ == "__main__":
    unittest.main()
