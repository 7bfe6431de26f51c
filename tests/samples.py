"""Values for the tests, and the document's definitions written down a second time, with sets."""

import functools
import itertools
import random

from closestrule.listings import Ordered, Rules


def nested(depth):
    """A tuple in a tuple in a tuple, this deep."""
    value = ()
    for step in range(depth):
        value = (value,)
    return value


# Values of every kind that callers may pass and that are neither cases nor rules nor lists of rules.
OTHER_VALUES = (
    None, True, False, 0, 1, 7, -1, 10**13 - 1, "", "x", "gives 1\n", "()", "settled",
    [], [()], [((), 1)], [((), 1), ((), 2)], {}, {0: 3}, {"rules": ()}, nested(20), [[[[]]]], ("settled",), ("torn", 0, 1),
)

RIGHT_CASES = (
    (), ((0, 0),), ((0, 9),), ((4, 0),), ((4, 9),), ((2, 5),), ((0, 3), (1, 5)), ((0, 9), (4, 0)), ((1, 5), (3, 5)),
    ((0, 1), (1, 1), (2, 1), (3, 1), (4, 1)), ((0, 9), (1, 8), (2, 7), (3, 6), (4, 5)),
)

WRONG_CASES = OTHER_VALUES + (
    # a condition in the place of a case, a case in the place of a condition
    (0, 3), (((0, 3),),), ((),), ((), ()),
    # lists and other kinds in the place of tuples
    [(0, 3)], ([0, 3],), ((0, 3), [1, 5]), ({0: 3},), ("0=3",), (None,), (0,), (Rules(),), (Ordered(),),
    # numbers just outside
    ((-1, 0),), ((5, 0),), ((0, -1),), ((0, 10),), ((0, 3), (5, 5)), ((0, 3), (1, 10)), ((10**12, 10**12),),
    # bools and other kinds in the place of integers
    ((False, 3),), ((True, 3),), ((0, False),), ((0, True),), ((0, 3), (True, 5)), ((0, 3), (1, True)),
    (("0", 3),), ((0, "3"),), ((None, 3),), ((0, None),), (((0,), 3),), ((0, (3,)),), ((0, [3]),), ((0, Rules()),),
    # too few and too many parts
    ((0,),), ((0, 3, 1),), ((0, 3), (1,)), ((0, 3), ()), ((0, 3), (1, 5, 0)),
    # not ascending, or an attribute twice
    ((1, 5), (0, 3)), ((0, 3), (0, 3)), ((0, 3), (0, 4)), ((0, 4), (0, 3)), ((0, 3), (2, 1), (1, 5)),
    ((0, 3), (1, 5), (1, 6)), ((0, 0), (1, 0), (2, 0), (3, 0), (4, 0), (4, 1)),
)

RIGHT_RULES = tuple((case, result) for case in RIGHT_CASES for result in (0, 1, 42, 99))

WRONG_RULES = OTHER_VALUES + WRONG_CASES + tuple((case, 1) for case in WRONG_CASES) + tuple(
    (((0, 3),), result) for result in (-1, 100, 10**12, True, False, None, "1", "", [1], (1,), {}, (), Rules())
) + (
    (), ((),), ((), 1, 2), (1, ()), [(), 1], ((), [1]), (((0, 3),), 2, None), ((0, 3), 2), (((), 1), ((), 2)),
    ((((0, 3),), 2),), (((0, 3),), (2,)),
)

# Thirteen different rules of several sizes: more than a list takes.
THIRTEEN = tuple((((0, value),), value) for value in range(10)) + (((), 50), (((1, 1),), 51), (((0, 1), (1, 1)), 52))
TWELVE = THIRTEEN[:12]
# Twelve rules of which no two are opposed, in no particular order; each is needed for its result.
SETTLED_TWELVE = THIRTEEN[12:] + THIRTEEN[4:11] + THIRTEEN[:4]
# Twelve rules that all give the same, so that one of them is enough.
LIKE_TWELVE = tuple((((1, value),), 7) for value in range(10)) + (((), 7), (((0, 0), (1, 0)), 7))


def wrong_lists(kind):
    """Values that are no lists of this kind."""
    other = Ordered if kind is Rules else Rules
    return OTHER_VALUES + (
        (), ((), 1), (((), 1),), other(), other(((), 1)), [kind()], (kind(),), {0: kind()}, kind(((), 1)).rules,
    )


def cases_over(attributes, values):
    """All cases that name some of the attributes, with these values."""
    choices = [[None] + [(attribute, value) for value in values] for attribute in attributes]
    return [tuple(c for c in chosen if c is not None) for chosen in itertools.product(*choices)]


@functools.lru_cache(None)
def all_cases_by_repr():
    """All cases there are, by their repr, which tells a bool from a number and a list from a tuple."""
    return {repr(case): case for case in cases_over(range(5), range(10))}


@functools.lru_cache(None)
def small_lists():
    """All lists of up to three rules over two attributes with one value each and two results, in two orders."""
    rules = [(case, result) for case in cases_over((0, 1), (1,)) for result in (1, 2)]
    rules += [(((0, 2),), 1), (((1, 2),), 2)]
    found = [chosen for size in range(4) for chosen in itertools.combinations(rules, size)]
    return found + [chosen[::-1] for chosen in found if len(chosen) > 1]


@functools.lru_cache(None)
def mixed_lists():
    """Lists of up to twelve rules over three attributes, drawn always alike."""
    draw = random.Random(11)
    found = []
    for size in range(4, 13):
        for turn in range(25):
            rules = [(case, result) for case in cases_over((0, 1, 3), (0, 1)) for result in (1, 2, 3)]
            found.append(tuple(draw.sample(rules, size)))
    # Filled up with a rule for each torn case, many lists are settled, which drawn ones seldom are.
    return found + [filled for filled in [fill(rules[:5]) for rules in found] if len(filled) <= 12]


def fill(rules):
    """The rules, and others for the torn cases until there are twelve or none is torn."""
    chosen = []
    for case, result in rules:
        if case not in [other for other, given in chosen]:
            chosen.append((case, result))
    for case in matter_by_definition(tuple(chosen)):
        if len({result for conditions, result in deciding_by_definition(chosen, case)}) > 1:
            chosen.append((case, 1))
    return tuple(chosen)


def every_list():
    return small_lists() + mixed_lists()


def deciding_by_definition(rules, case):
    matching = [rule for rule in rules if set(rule[0]) <= set(case)]
    return tuple(rule for rule in matching if not any(set(rule[0]) < set(other[0]) for other in matching))


def matter_by_definition(rules):
    found = set()
    for size in range(len(rules) + 1):
        for chosen in itertools.combinations(rules, size):
            conditions = {condition for rule in chosen for condition in rule[0]}
            if len(conditions) == len({attribute for attribute, value in conditions}):
                found.add(tuple(sorted(conditions)))
    return sorted(found, key=lambda case: (len(case), case))


def opposed_by_definition(rules):
    found = []
    for j, (other, result) in enumerate(rules):
        for i, (one, given) in enumerate(rules[:j]):
            values = dict(one)
            meet = all(values.get(attribute, value) == value for attribute, value in other)
            if meet and given != result and not set(one) < set(other) and not set(other) < set(one):
                found.append((i, j))
    return sorted(found)


def settling_by_definition(rules, i, j):
    one, other = set(rules[i][0]), set(rules[j][0])
    conditions = [set(rule[0]) for rule in rules]
    return [k for k, held in enumerate(conditions) if held <= one | other and (one < held or other < held)]


def results_by_definition(rules, case):
    return tuple(sorted({result for conditions, result in deciding_by_definition(rules, case)}))


def first_by_definition(rules, case):
    matching = [result for conditions, result in rules if set(conditions) <= set(case)]
    return matching[0] if matching else None


def by_size(rules):
    """The rules with fewer conditions first, ascending among those with equally many."""
    return tuple(sorted(rules, key=lambda rule: (len(rule[0]), rule)))


def settled_lists():
    return [rules for rules in every_list() if verdict_by_definition(rules)[0] == "settled"]


@functools.lru_cache(None)
def lists_with_results(given):
    """All settled lists, as sets of rules, with these (case, results) of all cases over a few conditions.

    Each rule of such a list decides for its own conditions, so it gives just the result of this case.
    """
    full = [(case, results[0]) for case, results in given if results]
    sublists = [chosen for size in range(len(full) + 1) for chosen in itertools.combinations(full, size)]
    return [
        frozenset(chosen) for chosen in sublists
        if all(results_by_definition(chosen, case) == results for case, results in given)
    ]


def smallest_by_definition(given):
    """The rules of the list among them whose rules are among those of each."""
    found = lists_with_results(given)
    common = frozenset.intersection(*found)
    assert common in found
    return by_size(common)


def verdict_by_definition(rules):
    parts = []
    for i, j in opposed_by_definition(rules):
        settling = settling_by_definition(rules, i, j)
        if not settling:
            return ("torn", i, j, tuple(sorted(set(rules[i][0]) | set(rules[j][0]))))
        parts.append((i, j, settling[0]))
    return ("settled", tuple(parts))


def shown_by_definition(rules, thing):
    """Whether the value is a verdict that holds: written out, it is one of those that do."""
    pairs = opposed_by_definition(rules)
    if repr(thing).startswith("('settled'"):
        choices = [[(i, j, k) for k in settling_by_definition(rules, i, j)] for i, j in pairs]
        return repr(thing) in [repr(("settled", parts)) for parts in itertools.product(*choices)]
    if not isinstance(thing, tuple) or len(thing) != 4 or repr(thing[3]) not in all_cases_by_repr():
        return False
    decided = deciding_by_definition(rules, thing[3])
    numbers = [k for k, rule in enumerate(rules) if rule in decided]
    pairs = [(i, j) for i in numbers for j in numbers if i < j and rules[i][1] != rules[j][1]]
    return repr(thing) in [repr(("torn", i, j, thing[3])) for i, j in pairs]


def variants(value):
    """Values like this one with a part changed, left out, repeated, added, moved or of another kind."""
    yield None
    if isinstance(value, str):
        yield from ("", value.upper(), value + " ", "torn", "settled", [value], (value,))
    elif isinstance(value, tuple):
        yield list(value)
        yield value + (0,)
        yield value + ((),)
        yield value[::-1]
        for at, part in enumerate(value):
            yield value[:at] + value[at + 1:]
            yield value[:at] + (part,) + value[at:]
            for variant in variants(part):
                yield value[:at] + (variant,) + value[at + 1:]
    else:
        yield from range(-1, 13)
        yield from (True, False, str(value), (value,), [value], 10**12)
