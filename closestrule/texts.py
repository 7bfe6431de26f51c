"""The texts of lists of rules, written and read."""

from closestrule.errors import NoText
from closestrule.forms import MOST_ATTRIBUTE, MOST_RULES, are_rules


def write_rule(rule):
    """The line of a rule, with its line feed."""
    conditions, result = rule
    words = [f"{attribute}={value}" for attribute, value in conditions]
    return " ".join([*words, "gives", str(result)]) + "\n"


def write_rules(rules):
    """The text of a list with these rules."""
    return "".join([write_rule(rule) for rule in rules])


def read_number(word):
    """The number from 0 to 99 that is written as this very word, None if there is none."""
    # int() takes signs, blanks, leading zeros and digits of other scripts, too; here one spelling counts.
    if not word.isdigit() or not word.isascii() or len(word) > 2:
        return None
    return int(word) if len(word) == 1 or word[0] != "0" else None


def read_condition(word):
    """The condition that is written as this word; a part of it that is no number is None."""
    attribute, sign, value = word.partition("=")
    return (read_number(attribute), read_number(value))


def read_rule(line):
    """The rule that is written in a line without its line feed; not a rule where the line is of none."""
    words = line.split(" ")
    if len(words) < 2 or words[-2] != "gives":
        return None
    # There is no more than one condition for each attribute; longer lines need not be read.
    if len(words) - 2 > MOST_ATTRIBUTE + 1:
        return None
    return (tuple([read_condition(word) for word in words[:-2]]), read_number(words[-1]))


def read_rules(text):
    """The rules of the list with this text, as a tuple; NoText for anything but the text of a list."""
    if not isinstance(text, str):
        raise NoText("the value is not a text")
    *lines, rest = text.split("\n")
    if rest != "" or len(lines) > MOST_RULES:
        raise NoText("the text is not that of at most 12 lines")
    rules = tuple([read_rule(line) for line in lines])
    if not are_rules(rules):
        raise NoText("the text is not that of a list of rules")
    return rules
