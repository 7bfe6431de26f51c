"""The smallest list with the same results, and whether two lists have the same results for all cases."""

from closestrule.errors import TooMany
from closestrule.forms import MOST_RULES, is_case
from closestrule.listings import Rules, need_rules, need_settled
from closestrule.matching import results_for, rule_by_size


def smallest_rules(candidates):
    """The candidates that the smallest list keeps; TooMany if a list cannot have so many.

    Candidates with fewer conditions come first, and no two have the same conditions.
    """
    kept = []
    for rule in candidates:
        conditions, result = rule
        # No kept rule has these very conditions, so those that match them lie strictly within.
        if results_for(kept, conditions) != (result,):
            kept.append(rule)
        # Candidates can be hundreds: what follows cannot make the list shorter again.
        if len(kept) > MOST_RULES:
            raise TooMany("the smallest list has more than 12 rules")
    return kept


def least_rules(rules):
    """The rules of the smallest list for a settled Rules, ordered by size."""
    return smallest_rules(sorted(rules.rules, key=rule_by_size))


def rules_apart(one, other):
    """The rules that only one of the smallest lists of two settled Rules has, ordered by size."""
    mine = least_rules(one)
    theirs = least_rules(other)
    apart = [rule for rule in mine if rule not in theirs] + [rule for rule in theirs if rule not in mine]
    return sorted(apart, key=rule_by_size)


def need_two_settled(one, other):
    """Raise NotRules if one of the two is no Rules, and only then Torn if one is not settled."""
    need_rules(one)
    need_rules(other)
    need_settled(one)
    need_settled(other)


def least(rules):
    """The smallest list with the same results, its rules ordered by size, then ascending."""
    need_rules(rules)
    need_settled(rules)
    kept = least_rules(rules)
    return Rules(*kept)


def same(one, other):
    """("same",), or ("different", case) with the first case at which the smallest lists part."""
    need_two_settled(one, other)
    apart = rules_apart(one, other)
    if len(apart) == 0:
        return ("same",)
    return ("different", apart[0][0])


def shows_same(one, other, thing):
    """Whether any value tells rightly that the results are the same, or a case in which they differ."""
    need_two_settled(one, other)
    if not isinstance(thing, tuple):
        return False
    if len(thing) == 1 and thing[0] == "same":
        return len(rules_apart(one, other)) == 0
    if len(thing) == 2 and thing[0] == "different":
        return is_case(thing[1]) and one(thing[1]) != other(thing[1])
    return False
