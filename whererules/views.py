"""Views of tables, and which rules hold over them whenever rules hold in the tables."""

from whererules.cases import cell_at, closed_cells, empty_case, filled_rows, with_equal, with_value
from whererules.columns import check_columns, check_table, is_number
from whererules.errors import InvalidRule, InvalidView
from whererules.rules import check_rules, fresh_value, given_is_right, has_given, is_value_rule, rule_is_right
from whererules.trees import prove

MOST_BRANCHES = 3


def is_view(columns, value):
    """True if the value is a view."""
    check_columns(columns)
    return view_is_right(columns, value)


def view_rows(columns, view, table):
    """The view of the table."""
    check_columns(columns)
    check_view(columns, view)
    check_table(columns, table)
    rows = []
    for chosen, kept in view:
        for row in table:
            if has_given(chosen, row):
                rows.append(tuple([row[column] for column in kept]))
    return tuple(rows)


def view_follows(columns, rules, view, rule):
    """True if the rule over the view follows from the rules."""
    return prove_view(columns, rules, view, rule)[1] is None


def view_trees(columns, rules, view, rule):
    """The list of tuples (i, tree), or (i, j, tree), with a tree for each case; None if the rule does not follow."""
    return prove_view(columns, rules, view, rule)[0]


def view_against(columns, rules, view, rule):
    """A table of one row or two in which the rules hold, and in whose view the rule does not; or None."""
    _, left = prove_view(columns, rules, view, rule)
    if left is None:
        return None
    return filled_rows(left, fresh_over_view(columns, rules, view, rule))


def view_is_right(columns, value):
    """What is_view tells, for columns that are checked."""
    if not isinstance(value, tuple) or not 1 <= len(value) <= MOST_BRANCHES:
        return False
    for branch in value:
        if not branch_is_right(columns, branch) or len(branch[1]) != len(value[0][1]):
            return False
    return True


def branch_is_right(columns, value):
    """True if the value is a branch of a view."""
    if not isinstance(value, tuple) or len(value) != 2:
        return False
    chosen, kept = value
    if not given_is_right(columns, chosen) or None in [entry[1] for entry in chosen]:
        return False
    return kept_is_right(columns, kept)


def kept_is_right(columns, value):
    """True if the value is a tuple of different columns, at least one, in any order."""
    if not isinstance(value, tuple) or len(value) == 0:
        return False
    for k in range(len(value)):
        if not is_number(value[k], len(columns)) or value[k] in value[:k]:
            return False
    return True


def check_view(columns, view):
    """Raises InvalidView if the argument is no view."""
    if not view_is_right(columns, view):
        raise InvalidView("this is no view of the columns")


def check_view_rule(view, rule):
    """Raises InvalidRule if the argument is no rule over the view."""
    open_columns = (None,) * len(view[0][1])
    if not rule_is_right(open_columns, rule):
        raise InvalidRule("this is no rule over the view")


def prove_view(columns, rules, view, rule):
    """A list of the branches of each case with a tree, and None; or None, and a case that shows the contrary."""
    check_columns(columns)
    check_rules(columns, rules)
    check_view(columns, view)
    check_view_rule(view, rule)
    found = []
    for branches in branches_of_cases(view, rule):
        case = view_case(columns, view, rule, branches)
        goal = view_goal(columns, view, rule, branches)
        tree, left = prove(rules, case, goal, closed_cells(columns, len(branches)))
        if tree is None:
            return None, left
        found.append(branches + (tree,))
    return found, None


def branches_of_cases(view, rule):
    """The ascending list of the tuples (i,), or (i, j), of branches for which there is a case."""
    found = []
    for i in range(len(view)):
        if is_value_rule(rule):
            found.append((i,))
        else:
            for j in range(i, len(view)):
                found.append((i, j))
    return found


def kept_cells(columns, view, branches, place):
    """The number of the cell of each row of the case that the view keeps at this place."""
    cells = []
    for row in range(len(branches)):
        _, kept = view[branches[row]]
        cells.append(row * len(columns) + kept[place])
    return cells


def view_case(columns, view, rule, branches):
    """The case of the rule for these branches."""
    case = empty_case(columns, len(branches))
    for row in range(len(branches)):
        chosen, _ = view[branches[row]]
        for column, value in chosen:
            case = with_value(case, cell_at(case, row, column), value)
    for place, value in rule[0]:
        cells = kept_cells(columns, view, branches, place)
        if value is None:
            case = with_equal(case, cells[0], cells[1])
        else:
            for cell in cells:
                case = with_value(case, cell, value)
    return case


def view_goal(columns, view, rule, branches):
    """The goal of the rule for these branches."""
    cells = kept_cells(columns, view, branches, rule[1])
    if is_value_rule(rule):
        return ("value", cells[0], rule[2])
    return ("equal", cells[0], cells[1])


def fresh_over_view(columns, rules, view, rule):
    """A value that is greater than all values in the closed columns, the rules, the rule and the view."""
    chosen_rules = tuple([(chosen, 0, None) for chosen, _ in view])
    fresh = fresh_value(rules + (rule,) + chosen_rules)
    # The view may put a cell of an open column beside one of a closed column.
    for column in columns:
        if column is not None:
            fresh = max(fresh, column[-1] + 1)
    return fresh
