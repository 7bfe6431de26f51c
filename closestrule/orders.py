"""Ordered lists: rules that never decide, and the ways from closest rules to ordered ones and back."""

from closestrule.listings import Ordered, Rules, need_ordered, need_rules, need_settled
from closestrule.matching import cases_that_matter, first_result, lies_within
from closestrule.smallest import smallest_rules


def is_covered(conditions, earlier):
    """Whether an earlier rule matches every case that these conditions match."""
    return any([lies_within(rule[0], conditions) for rule in earlier])


def never(ordered):
    """The ascending tuple of the numbers of the rules that decide for no case."""
    need_ordered(ordered)
    held = ordered.rules
    return tuple([number for number, rule in enumerate(held) if is_covered(rule[0], held[:number])])


def in_order(rules):
    """The Ordered with the rules of a settled list, those with more conditions first."""
    need_rules(rules)
    need_settled(rules)
    turned = sorted(rules.rules, key=lambda rule: (-len(rule[0]), rule))
    return Ordered(*turned)


def closest(ordered):
    """The smallest settled list that gives the same results as the ordered one."""
    need_ordered(ordered)
    held = ordered.rules
    told = [(case, first_result(held, case)) for case in cases_that_matter(held)]
    # A case without a result needs no rule: no rule matches it, nor any case within it.
    kept = smallest_rules([(case, result) for case, result in told if result is not None])
    return Rules(*kept)
