"""Which rules decide, whether two results can come about for one case, and which cases matter."""

from closestrule.forms import is_case, is_number, need_case
from closestrule.listings import need_rules
from closestrule.matching import cases_that_matter, deciding_rules, opposed_pairs, settling_numbers, together


def deciding(rules, case):
    """The tuple of the rules that match the case and are beaten by no rule that does, in their order."""
    need_rules(rules)
    need_case(case)
    return deciding_rules(rules.rules, case)


def verdict(rules):
    """("settled", parts), or ("torn", i, j, case) for the first opposed rules that no rule settles."""
    need_rules(rules)
    held = rules.rules
    parts = []
    for i, j in opposed_pairs(held):
        numbers = settling_numbers(held, i, j)
        if len(numbers) == 0:
            return ("torn", i, j, together(held[i][0], held[j][0]))
        parts.append((i, j, numbers[0]))
    return ("settled", tuple(parts))


def shows_verdict(rules, thing):
    """Whether any value is a verdict that holds, with whichever rules settle or whichever case is torn."""
    need_rules(rules)
    if not isinstance(thing, tuple):
        return False
    if len(thing) == 2 and thing[0] == "settled":
        return shows_settled(rules.rules, thing[1])
    if len(thing) == 4 and thing[0] == "torn":
        return shows_torn(rules.rules, thing[1], thing[2], thing[3])
    return False


def shows_settled(rules, parts):
    """Whether any value is a tuple with one part for each pair of opposed rules, ascending."""
    pairs = opposed_pairs(rules)
    if not isinstance(parts, tuple) or len(parts) != len(pairs):
        return False
    return all([shows_part(rules, pair, part) for pair, part in zip(pairs, parts)])


def shows_part(rules, pair, part):
    """Whether any value is (i, j, k) with the numbers of this pair and of a rule that settles it."""
    if not isinstance(part, tuple) or len(part) != 3:
        return False
    # A True would pass for a 1 in the comparison below.
    if not all([is_number(number, len(rules) - 1) for number in part]):
        return False
    i, j, k = part
    return (i, j) == pair and k in settling_numbers(rules, i, j)


def shows_torn(rules, i, j, case):
    """Whether any values are numbers, i before j, of deciding rules of the case with different results."""
    if not is_number(j, len(rules) - 1) or not is_number(i, j - 1) or not is_case(case):
        return False
    decided = deciding_rules(rules, case)
    return rules[i] in decided and rules[j] in decided and rules[i][1] != rules[j][1]


def cases(rules):
    """Yield all cases that matter, those with fewer conditions first, ascending among equally many."""
    need_rules(rules)
    found = cases_that_matter(rules.rules)
    yield from found
