"""The forms of values: what is a number, a condition, a case, a rule, and what is not."""

from closestrule.errors import NoCase, NoNumber, NoRule

MOST_ATTRIBUTE = 4
MOST_VALUE = 9
MOST_RESULT = 99
MOST_RULES = 12


def is_number(thing, most):
    """Whether any value is an integer from 0 to most."""
    # To Python a bool is an int, too; here it never stands for an integer.
    return isinstance(thing, int) and not isinstance(thing, bool) and 0 <= thing <= most


def is_condition(thing):
    """Whether any value is a tuple (attribute, value)."""
    if not isinstance(thing, tuple) or len(thing) != 2:
        return False
    attribute, value = thing
    return is_number(attribute, MOST_ATTRIBUTE) and is_number(value, MOST_VALUE)


def is_case(thing):
    """Whether any value is an ascending tuple of conditions with different attributes."""
    if not isinstance(thing, tuple) or not all([is_condition(part) for part in thing]):
        return False
    # Attributes that strictly ascend make the conditions ascend and name no attribute twice.
    return all([one[0] < following[0] for one, following in zip(thing, thing[1:])])


def is_rule(thing):
    """Whether any value is a tuple (case, result)."""
    if not isinstance(thing, tuple) or len(thing) != 2:
        return False
    conditions, result = thing
    return is_case(conditions) and is_number(result, MOST_RESULT)


def are_rules(things):
    """Whether the values of a list or tuple are at most twelve rules without repetition."""
    if len(things) > MOST_RULES or not all([is_rule(thing) for thing in things]):
        return False
    return len(set(things)) == len(things)


def need_case(thing):
    """Raise NoCase for anything but a case."""
    if not is_case(thing):
        raise NoCase("a case is an ascending tuple of conditions with different attributes")


def need_rule(thing):
    """Raise NoRule for anything but a rule."""
    if not is_rule(thing):
        raise NoRule("a rule is a tuple of a case and a result from 0 to 99")


def need_number(thing, most):
    """Raise NoNumber for anything but an integer from 0 to most."""
    if not is_number(thing, most):
        raise NoNumber(f"the value is not an integer from 0 to {most}")
