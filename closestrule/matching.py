"""What rules have to do with cases and with one another, for plain tuples of rules.

A rule is a tuple (conditions, result), and its conditions are a case; so the functions over
conditions serve for cases as well.
"""


def lies_within(inner, outer):
    """Whether all conditions of inner are among those of outer."""
    return all([condition in outer for condition in inner])


def lies_strictly_within(inner, outer):
    """Whether outer has all conditions of inner and more."""
    return len(inner) < len(outer) and lies_within(inner, outer)


def meet(one, other):
    """Whether no attribute has different values in these conditions."""
    return all([named != attribute or found == value for named, found in one for attribute, value in other])


def together(one, other):
    """The conditions of two cases that meet, put together to one case."""
    return tuple(sorted(set(one + other)))


def matching_rules(rules, case):
    """The rules that match the case, in their order."""
    return [rule for rule in rules if lies_within(rule[0], case)]


def is_beaten(rule, rules):
    """Whether one of the rules beats the rule."""
    return any([lies_strictly_within(rule[0], conditions) for conditions, result in rules])


def deciding_rules(rules, case):
    """The matching rules that no matching rule beats, in their order."""
    matching = matching_rules(rules, case)
    return tuple([rule for rule in matching if not is_beaten(rule, matching)])


def results_for(rules, case):
    """The different results of the deciding rules, ascending."""
    return tuple(sorted({result for conditions, result in deciding_rules(rules, case)}))


def first_result(rules, case):
    """The result of the first rule that matches the case, None if there is none."""
    matching = matching_rules(rules, case)
    return matching[0][1] if len(matching) > 0 else None


def are_opposed(one, other):
    """Whether the rules meet and differ in their results, and neither beats the other."""
    if one[1] == other[1] or not meet(one[0], other[0]):
        return False
    return not lies_strictly_within(one[0], other[0]) and not lies_strictly_within(other[0], one[0])


def opposed_pairs(rules):
    """The numbers (i, j) of all opposed rules, i before j, ascending."""
    many = len(rules)
    return [(i, j) for i in range(many) for j in range(i + 1, many) if are_opposed(rules[i], rules[j])]


def settles(conditions, one, other):
    """Whether a rule with these conditions settles two opposed rules with the conditions one and other."""
    # Few rules include one of the two, so only for these the two are put together.
    if not lies_strictly_within(one, conditions) and not lies_strictly_within(other, conditions):
        return False
    return lies_within(conditions, together(one, other))


def settling_numbers(rules, i, j):
    """The numbers of all rules that settle the opposed rules number i and j, ascending."""
    return [k for k in range(len(rules)) if settles(rules[k][0], rules[i][0], rules[j][0])]


def are_settled(rules):
    """Whether all opposed rules are settled by a rule."""
    return all([len(settling_numbers(rules, i, j)) > 0 for i, j in opposed_pairs(rules)])


def by_size(conditions):
    """The key that puts fewer conditions first and sorts equally many in ascending order."""
    return (len(conditions), conditions)


def rule_by_size(rule):
    """The key that puts rules with fewer conditions first and sorts the others in ascending order."""
    return (len(rule[0]), rule)


def cases_that_matter(rules):
    """The conditions of all sets of rules that meet one another, put together, ordered by size."""
    found = {(): True}
    for conditions, result in rules:
        for case in list(found):
            if meet(case, conditions):
                found[together(case, conditions)] = True
    return sorted(list(found), key=by_size)
