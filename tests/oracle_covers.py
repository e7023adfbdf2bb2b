"""What DOC.md says of general rules, covers and rules that are found, written once more."""

from itertools import combinations, product

import oracle


def all_givens(places, values, blanks):
    """All givens with entries of some of the places, with these values of each column, and perhaps blank ones."""
    found = []
    for many in range(len(places) + 1):
        for some in combinations(places, many):
            choices = [tuple(values[place]) + ((None,) if blanks else ()) for place in some]
            found += [tuple(zip(some, chosen)) for chosen in product(*choices)]
    return found


def all_rules(columns, values):
    """All rules with these values of each column."""
    found = []
    for column in range(len(columns)):
        places = [place for place in range(len(columns)) if place != column]
        found += [(given, column, want) for given in all_givens(places, values, False) for want in values[column]]
        found += [(given, column, None) for given in all_givens(places, values, True)]
    return found


def all_more_general(rule):
    """All rules that are more general than the rule."""
    given, column, want = rule
    choices = []
    for place, value in given:
        kept = [((place, value),), ()]
        if want is None and value is not None:
            kept.append(((place, None),))
        choices.append(kept)
    found = [(sum(parts, ()), column, want) for parts in product(*choices)]
    return [other for other in found if other != rule]


def is_more_general(rule, other):
    return rule in all_more_general(other)


def cover_conditions(columns, rules, value):
    """The conditions of a cover of rules that are at peace, in their order, each as a function without arguments."""
    def follow(some, others):
        return all(oracle.rule_follows(columns, some, rule) for rule in others)

    return [
        lambda: oracle.right_rules(columns, value),
        lambda: follow(value, rules),
        lambda: follow(rules, value),
        lambda: not any(oracle.rule_follows(columns, value[:k] + value[k + 1:], value[k]) for k in range(len(value))),
        lambda: not any(oracle.rule_follows(columns, rules, other) for rule in value for other in all_more_general(rule)),
    ]


def cover_judged(columns, rules, value):
    return all(condition() for condition in cover_conditions(columns, rules, value))


def found_by_all(columns, table, number):
    """The rules that are found, out of all rules with values that stand in the table in their columns."""
    values = [sorted({row[column] for row in table}) for column in range(len(columns))]
    held = []
    for rule in all_rules(columns, values):
        many = sum(oracle.row_matches(rule[0], row) for row in table)
        if many >= number and oracle.rule_holds(rule, table):
            held.append(rule)
    known = set(held)
    return [rule for rule in held if not known & set(all_more_general(rule))]
