"""What DOC.md says of views, written once more."""

from itertools import product

import oracle


def right_branch(columns, value):
    if type(value) is not tuple or len(value) != 2 or type(value[1]) is not tuple:
        return False
    chosen, kept = value
    if not oracle.right_given(columns, chosen) or any(entry[1] is None for entry in chosen):
        return False
    if not all(oracle.below(column, len(columns)) for column in kept):
        return False
    return 1 <= len(kept) == len(set(kept))


def right_view(columns, value):
    if type(value) is not tuple or len(value) not in (1, 2, 3):
        return False
    if not all(right_branch(columns, branch) for branch in value):
        return False
    return len({len(branch[1]) for branch in value}) == 1


def right_view_rule(view, value):
    return oracle.right_rule((None,) * len(view[0][1]), value)


def rows_of_view(view, table):
    found = []
    for chosen, kept in view:
        rows = [row for row in table if all(row[column] == value for column, value in chosen)]
        found += [tuple(row[column] for column in kept) for row in rows]
    return tuple(found)


def branches_of(view, rule):
    """The branches of each case, ascending."""
    numbers = range(len(view))
    if rule[2] is not None:
        return [(i,) for i in numbers]
    return [(i, j) for i in numbers for j in numbers if i <= j]


def case_and_goal(columns, view, rule, branches):
    """What is known in the case of these branches, and its goal."""
    given, place, want = rule
    rows = range(len(branches))
    facts = [((row, column), value) for row in rows for column, value in view[branches[row]][0]]

    def cell(row, at):
        return (row, view[branches[row]][1][at])

    for at, value in given:
        if value is None:
            facts.append((cell(0, at), cell(1, at)))
        else:
            facts += [(cell(row, at), value) for row in rows]
    known = oracle.Known(columns, len(branches), facts)
    if want is not None:
        return known, lambda case: case.has(cell(0, place), want)
    return known, lambda case: case.equal(cell(0, place), cell(1, place))


def trees_judged(columns, rules, view, rule, value):
    """Whether the value is a list with a right tree for each case."""
    cases = branches_of(view, rule)
    if type(value) is not list or [told[:-1] for told in value] != cases:
        return False
    for branches, told in zip(cases, value):
        known, goal = case_and_goal(columns, view, rule, branches)
        if not oracle.tree_judged(rules, known, goal, told[-1]):
            return False
    return True


def against_judged(columns, rules, view, rule, value):
    """Whether the value is a table of at most two rows that shows that the rule does not follow."""
    if not oracle.right_table(columns, value) or len(value) > 2 or not oracle.all_hold(rules, value):
        return False
    return not oracle.rule_holds(rule, rows_of_view(view, value))


def fails_somewhere(columns, rules, view, rule):
    """Whether there is such a table among those of few values."""
    named = [value for column in columns if column is not None for value in column]
    for given, _, want in rules + (rule,) + tuple([(chosen, 0, None) for chosen, _ in view]):
        named += [value for value in [want] + [value for _, value in given] if value is not None]
    open_values = sorted(set(named) | {max(named, default=0) + 1, max(named, default=0) + 2})
    values = [open_values if column is None else column for column in columns]
    rows = [row for row in product(*values) if oracle.all_hold(rules, (row,))]
    for many in (1, 2):
        for table in product(rows, repeat=many):
            if not oracle.rule_holds(rule, rows_of_view(view, table)) and oracle.all_hold(rules, table):
                return True
    return False
