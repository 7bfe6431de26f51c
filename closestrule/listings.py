"""Lists of rules: Rules, in which the closest rules decide, and Ordered, in which the first one does."""

from closestrule.errors import NoRules, NotOrdered, NotRules, TooMany, Torn
from closestrule.forms import MOST_RULES, are_rules, is_rule, need_case
from closestrule.matching import are_settled, first_result, results_for
from closestrule.texts import read_rules, write_rules


def joined(one, other):
    """The rules of one and behind them those of other that are not among them; TooMany if they are too many."""
    both = one + tuple([rule for rule in other if rule not in one])
    if len(both) > MOST_RULES:
        raise TooMany("the two lists together have more than 12 rules")
    return both


def has_rule(rules, thing):
    """Whether any value is one of the rules."""
    # The form comes first: Python would take a bool in the rule for the equal number.
    return is_rule(thing) and thing in rules


class Listing:
    """What both kinds of lists have in common.

    Rules and Ordered repeat each method, since the interface requires it of every class itself.
    """

    def __init__(self, *rules):
        if not are_rules(rules):
            raise NoRules("a list consists of at most 12 different rules")
        self.held = rules

    @property
    def rules(self):
        """The tuple of the rules as given."""
        return self.held

    def __len__(self):
        return len(self.held)

    def __contains__(self, x):
        return has_rule(self.held, x)

    def __eq__(self, other):
        return isinstance(other, Listing) and self.held == other.held

    def __repr__(self):
        return f"Listing({len(self.held)} rules)"

    def __add__(self, other):
        if not isinstance(other, Listing):
            raise NotRules("only a list can be added to a list")
        both = joined(self.held, other.held)
        return Listing(*both)

    def text(self):
        """The text with a line for each rule."""
        return write_rules(self.held)

    @classmethod
    def read(cls, text):
        """The list with exactly this text."""
        rules = read_rules(text)
        return cls(*rules)


class Rules(Listing):
    """A list in which a rule is beaten by those whose conditions strictly include its own."""

    def __init__(self, *rules):
        super().__init__(*rules)

    @property
    def rules(self):
        """The tuple of the rules as given."""
        return self.held

    @property
    def settled(self):
        """Whether no case has two results."""
        return are_settled(self.held)

    def __len__(self):
        return len(self.held)

    def __contains__(self, x):
        return has_rule(self.held, x)

    def __call__(self, case):
        need_case(case)
        return results_for(self.held, case)

    def __eq__(self, other):
        return isinstance(other, Rules) and sorted(self.held) == sorted(other.held)

    def __repr__(self):
        return f"Rules({len(self.held)} rules)"

    def __add__(self, other):
        need_rules(other)
        both = joined(self.held, other.held)
        return Rules(*both)

    def text(self):
        """The text with a line for each rule."""
        return write_rules(self.held)

    @classmethod
    def read(cls, text):
        """The Rules with exactly this text."""
        rules = read_rules(text)
        return cls(*rules)


class Ordered(Listing):
    """A list in which the first rule that matches a case decides."""

    def __init__(self, *rules):
        super().__init__(*rules)

    @property
    def rules(self):
        """The tuple of the rules as given."""
        return self.held

    def __len__(self):
        return len(self.held)

    def __contains__(self, x):
        return has_rule(self.held, x)

    def __call__(self, case):
        need_case(case)
        return first_result(self.held, case)

    def __eq__(self, other):
        return isinstance(other, Ordered) and self.held == other.held

    def __repr__(self):
        return f"Ordered({len(self.held)} rules)"

    def __add__(self, other):
        need_ordered(other)
        both = joined(self.held, other.held)
        return Ordered(*both)

    def text(self):
        """The text with a line for each rule."""
        return write_rules(self.held)

    @classmethod
    def read(cls, text):
        """The Ordered with exactly this text."""
        rules = read_rules(text)
        return cls(*rules)


def need_rules(thing):
    """Raise NotRules for anything but a Rules."""
    if not isinstance(thing, Rules):
        raise NotRules("the value is not a Rules")


def need_ordered(thing):
    """Raise NotOrdered for anything but an Ordered."""
    if not isinstance(thing, Ordered):
        raise NotOrdered("the value is not an Ordered")


def need_settled(rules):
    """Raise Torn for a Rules that is not settled."""
    if not rules.settled:
        raise Torn("the list is not settled: some case has two results")
