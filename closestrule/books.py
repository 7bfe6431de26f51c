"""Books: lists of rules that change, with watched cases, and with changes that can be taken back.

Each kind of book repeats each method, since the interface requires it of every class itself.
"""

from closestrule.errors import Known, NothingDone, NotThere, TooMany
from closestrule.forms import MOST_RULES, need_case, need_number, need_rule
from closestrule.listings import Rules, need_rules, need_settled
from closestrule.matching import results_for


def results_for_all(rules, cases_told):
    """The tuple of the results of the rules for each of the cases."""
    return tuple([results_for(rules, case) for case in cases_told])


class Trying:
    """The object for one with statement, which puts the book back if an exception leaves the block."""

    def __init__(self, book):
        self.book = book

    def __enter__(self):
        # What a book holds is replaced, never modified, so it need not be copied here.
        self.current = self.book.current
        self.observed = self.book.observed
        self.past = self.book.past
        return self.book

    def __exit__(self, kind, value, trace):
        if kind is not None:
            self.book.current = self.current
            self.book.observed = self.observed
            self.book.past = self.past


class Book:
    """A list of rules that changes.

    It holds the list as current, the watched cases as observed, and as past for each change what
    takes it back: the list before it, or None for a case that was watched.
    """

    def __init__(self, rules):
        need_rules(rules)
        self.check(rules)
        self.current = rules
        self.observed = ()
        self.past = ()

    def check(self, rules):
        """Raise an error if the book refuses this Rules; a plain book refuses none."""

    def take(self, rules):
        """Make this Rules the list, unless the book refuses it."""
        self.check(rules)
        self.past = self.past + (self.current,)
        self.current = rules

    @property
    def listing(self):
        """The list of rules, which can be assigned."""
        return self.current

    @listing.setter
    def listing(self, value):
        self.assign_listing(value)

    def assign_listing(self, rules):
        """Make this Rules the list, also an equal one."""
        need_rules(rules)
        self.take(rules)

    def add(self, rule):
        """Put a rule behind the others."""
        need_rule(rule)
        if rule in self.current:
            raise Known("the rule is there already")
        if len(self.current) >= MOST_RULES:
            raise TooMany("the book has 12 rules already")
        self.take(self.current + Rules(rule))

    def __call__(self, rule):
        self.add(rule)

    def drop(self, rule):
        """Take a rule out."""
        need_rule(rule)
        if rule not in self.current:
            raise NotThere("the rule is not there")
        others = [held for held in self.current.rules if held != rule]
        self.take(Rules(*others))

    def watch(self, case):
        """Put a case behind the watched ones."""
        need_case(case)
        self.observed = self.observed + (case,)
        self.past = self.past + (None,)

    @property
    def watched(self):
        """The tuple of the watched cases."""
        return self.observed

    @property
    def results(self):
        """The tuple of what the list gives for the watched cases."""
        return results_for_all(self.current.held, self.observed)

    @property
    def changes(self):
        """How many changes can be taken back."""
        return len(self.past)

    def undo(self):
        """Take back the last change that has not been taken back."""
        if len(self.past) == 0:
            raise NothingDone("there is no change to take back")
        before = self.past[-1]
        if before is None:
            self.observed = self.observed[:-1]
        else:
            self.current = before
        self.past = self.past[:-1]

    def trying(self):
        """An object for one with statement: an exception that leaves its block takes back what it did."""
        return Trying(self)

    def __len__(self):
        return len(self.current.held)

    def __repr__(self):
        return f"Book({len(self.current.held)} rules)"


class Settled(Book):
    """A book that refuses lists that are not settled."""

    def __init__(self, rules):
        Book.__init__(self, rules)

    def check(self, rules):
        """Raise Torn if this Rules is not settled, behind the errors of other kinds of books."""
        super().check(rules)
        need_settled(rules)

    @property
    def listing(self):
        """The list of rules, which can be assigned."""
        return self.current

    @listing.setter
    def listing(self, value):
        self.assign_listing(value)

    def assign_listing(self, rules):
        """Make this Rules the list, also an equal one."""
        super().assign_listing(rules)

    def add(self, rule):
        """Put a rule behind the others."""
        super().add(rule)

    def __call__(self, rule):
        self.add(rule)

    def drop(self, rule):
        """Take a rule out."""
        super().drop(rule)

    def watch(self, case):
        """Put a case behind the watched ones."""
        super().watch(case)

    @property
    def watched(self):
        """The tuple of the watched cases."""
        return self.observed

    @property
    def results(self):
        """The tuple of what the list gives for the watched cases."""
        return results_for_all(self.current.held, self.observed)

    @property
    def changes(self):
        """How many changes can be taken back."""
        return len(self.past)

    def undo(self):
        """Take back the last change that has not been taken back."""
        super().undo()

    def trying(self):
        """An object for one with statement: an exception that leaves its block takes back what it did."""
        return Trying(self)

    def __len__(self):
        return len(self.current.held)

    def __repr__(self):
        return f"Settled({len(self.current.held)} rules)"


class Small(Book):
    """A book that refuses lists of more than most rules."""

    def __init__(self, rules, most=6):
        need_rules(rules)
        need_number(most, MOST_RULES)
        # The check of the first list asks for the limit already.
        self.limit = most
        Book.__init__(self, rules)

    def check(self, rules):
        """Raise TooMany if this Rules has more than most rules."""
        super().check(rules)
        if len(rules) > self.limit:
            raise TooMany(f"the book takes at most {self.limit} rules")

    @property
    def most(self):
        """How many rules the book takes."""
        return self.limit

    @property
    def listing(self):
        """The list of rules, which can be assigned."""
        return self.current

    @listing.setter
    def listing(self, value):
        self.assign_listing(value)

    def assign_listing(self, rules):
        """Make this Rules the list, also an equal one."""
        super().assign_listing(rules)

    def add(self, rule):
        """Put a rule behind the others."""
        super().add(rule)

    def __call__(self, rule):
        self.add(rule)

    def drop(self, rule):
        """Take a rule out."""
        super().drop(rule)

    def watch(self, case):
        """Put a case behind the watched ones."""
        super().watch(case)

    @property
    def watched(self):
        """The tuple of the watched cases."""
        return self.observed

    @property
    def results(self):
        """The tuple of what the list gives for the watched cases."""
        return results_for_all(self.current.held, self.observed)

    @property
    def changes(self):
        """How many changes can be taken back."""
        return len(self.past)

    def undo(self):
        """Take back the last change that has not been taken back."""
        super().undo()

    def trying(self):
        """An object for one with statement: an exception that leaves its block takes back what it did."""
        return Trying(self)

    def __len__(self):
        return len(self.current.held)

    def __repr__(self):
        return f"Small({len(self.current.held)} rules)"


class SettledSmall(Settled, Small):
    """A book that refuses lists that are not settled and lists of more than most rules."""

    def __init__(self, rules, most=6):
        Small.__init__(self, rules, most)

    @property
    def most(self):
        """How many rules the book takes."""
        return self.limit

    @property
    def listing(self):
        """The list of rules, which can be assigned."""
        return self.current

    @listing.setter
    def listing(self, value):
        self.assign_listing(value)

    def assign_listing(self, rules):
        """Make this Rules the list, also an equal one."""
        super().assign_listing(rules)

    def add(self, rule):
        """Put a rule behind the others."""
        super().add(rule)

    def __call__(self, rule):
        self.add(rule)

    def drop(self, rule):
        """Take a rule out."""
        super().drop(rule)

    def watch(self, case):
        """Put a case behind the watched ones."""
        super().watch(case)

    @property
    def watched(self):
        """The tuple of the watched cases."""
        return self.observed

    @property
    def results(self):
        """The tuple of what the list gives for the watched cases."""
        return results_for_all(self.current.held, self.observed)

    @property
    def changes(self):
        """How many changes can be taken back."""
        return len(self.past)

    def undo(self):
        """Take back the last change that has not been taken back."""
        super().undo()

    def trying(self):
        """An object for one with statement: an exception that leaves its block takes back what it did."""
        return Trying(self)

    def __len__(self):
        return len(self.current.held)

    def __repr__(self):
        return f"SettledSmall({len(self.current.held)} rules)"
