"""The errors of the program: a RuleError for each kind of failure."""


class RuleError(ValueError):
    """Any failure that the program tells its callers of."""


class NoRules(RuleError):
    """The arguments are not at most twelve different rules."""


class NoRule(RuleError):
    """The value is not a rule."""


class NoCase(RuleError):
    """The value is not a case."""


class NoNumber(RuleError):
    """The value is not a number as it is required."""


class NoText(RuleError):
    """The value is not the text of a list."""


class NotRules(RuleError):
    """The value is not a Rules."""


class NotOrdered(RuleError):
    """The value is not an Ordered."""


class TooMany(RuleError):
    """The list would have too many rules."""


class Known(RuleError):
    """The rule is there already."""


class NotThere(RuleError):
    """The rule is not there."""


class Torn(RuleError):
    """The list is not settled."""


class NothingDone(RuleError):
    """There is no change that could be taken back."""
