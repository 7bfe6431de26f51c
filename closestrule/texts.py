"""The texts of lists of rules, written and read."""

from closestrule.errors import NoText
from closestrule.forms import MOST_RESULT, are_rules


def write_rule(rule):
    """The line of a rule, with its line feed."""
    conditions, result = rule
    words = [f"{attribute}={value}" for attribute, value in conditions]
    return " ".join([*words, "gives", str(result)]) + "\n"


def write_rules(rules):
    """The text of a list with these rules."""
    return "".join([write_rule(rule) for rule in rules])


def read_number(word):
    """The number that is written as this very word, None if there is none up to the largest result."""
    # Looking the word up accepts one spelling only: int() would take signs, blanks and leading zeros.
    words = [str(number) for number in range(MOST_RESULT + 1)]
    return words.index(word) if word in words else None


def read_condition(word):
    """The condition that is written as this word; a part of it that is no number is None."""
    attribute, sign, value = word.partition("=")
    return (read_number(attribute), read_number(value))


def read_rule(line):
    """The rule that is written in a line without its line feed; not a rule where the line is of none."""
    words = line.split(" ")
    if len(words) < 2 or words[-2] != "gives":
        return None
    return (tuple([read_condition(word) for word in words[:-2]]), read_number(words[-1]))


def read_rules(text):
    """The rules of the list with this text, as a tuple; NoText for anything but the text of a list."""
    if not isinstance(text, str):
        raise NoText("the value is not a text")
    *lines, rest = text.split("\n")
    rules = tuple([read_rule(line) for line in lines])
    if rest != "" or not are_rules(rules):
        raise NoText("the text is not that of a list of rules")
    return rules
