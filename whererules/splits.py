"""Which cells must be split to show that a rule follows, and what a given settles."""

from itertools import combinations

from whererules.cases import (
    are_equal, cell_at, closed_cells, empty_case, filled_rows, given_case, in_rows, with_equal_rows, with_value)
from whererules.columns import check_columns, is_integer, is_number, is_value_of
from whererules.errors import InvalidCells
from whererules.following import check_question
from whererules.rules import check_given, check_rules, fresh_value
from whererules.trees import is_goal_known, next_move, prove, rule_case, rule_goal, rule_rows


def is_enough(columns, rules, rule, cells):
    """True if there is a tree of the rule that splits no other cells."""
    check_question(columns, rules, rule)
    check_cells(columns, rule, cells)
    return cells_are_enough(columns, rules, rule, cells)


def stuck(columns, rules, rule, cells):
    """A stand that is stuck for the cells, or None."""
    check_question(columns, rules, rule)
    check_cells(columns, rule, cells)
    _, left = prove(rules, rule_case(columns, rule), rule_goal(columns, rule), cells)
    if left is None:
        return None
    return (in_rows(left, left.known), equal_columns(left))


def is_stuck(columns, rules, rule, cells, value):
    """True if the value is a stand that is stuck for the cells."""
    check_question(columns, rules, rule)
    check_cells(columns, rule, cells)
    return stand_is_stuck(columns, rules, rule, cells, value)


def least_sets(columns, rules, rule):
    """The ascending list of the least sets."""
    check_question(columns, rules, rule)
    closed = closed_cells(columns, rule_rows(rule))
    found = []
    for size in range(len(closed) + 1):
        for cells in combinations(closed, size):
            if not has_one_of(found, cells) and cells_are_enough(columns, rules, rule, cells):
                found.append(cells)
    return sorted(found)


def settles(columns, rules, given):
    """The tuple with what the given settles each column to."""
    check_columns(columns)
    check_rules(columns, rules)
    check_given(columns, given)
    _, left = prove(rules, given_case(columns, given, 1), None, closed_cells(columns, 1))
    if left is None:
        return ("never",) * len(columns)
    # If all rows have one value in a column, it is the value of this row.
    row = filled_rows(left, fresh_value(rules))[0]
    told = []
    for column in range(len(columns)):
        told.append(settled_to(columns, rules, given, column, row[column]))
    return tuple(told)


def settled_to(columns, rules, given, column, value):
    """What the given settles the column to, where a row has the value in it."""
    one = given_case(columns, given, 1)
    if is_proved(rules, one, ("value", column, value)):
        return value
    two = given_case(columns, given, 2)
    if is_proved(rules, two, ("equal", column, len(columns) + column)):
        return "same"
    return "free"


def is_proved(rules, case, goal):
    """True if there is a tree for the goal that is right in the case."""
    _, left = prove(rules, case, goal, closed_cells(case.columns, case.rows))
    return left is None


def check_cells(columns, rule, cells):
    """Raises InvalidCells if the argument is no set of closed cells of the rule."""
    if not cells_are_right(closed_cells(columns, rule_rows(rule)), cells):
        raise InvalidCells("this is no ascending tuple of different closed cells of the rule")


def cells_are_right(closed, value):
    """True if the value is an ascending tuple of different cells of the closed ones."""
    if not isinstance(value, tuple):
        return False
    for cell in value:
        if not is_cell_in(closed, cell):
            return False
    return is_ascending(value)


def is_cell_in(cells, value):
    """True if the value is one of the cells."""
    if not isinstance(value, tuple) or len(value) != 2:
        return False
    # True and False are equal to 1 and 0, but they are no numbers of rows and columns.
    return is_integer(value[0]) and is_integer(value[1]) and value in cells


def is_ascending(values):
    """True if each of the values is greater than the one before it."""
    for k in range(1, len(values)):
        if not values[k - 1] < values[k]:
            return False
    return True


def cells_are_enough(columns, rules, rule, cells):
    """What is_enough tells, for arguments that are checked."""
    _, left = prove(rules, rule_case(columns, rule), rule_goal(columns, rule), cells)
    return left is None


def has_one_of(sets, cells):
    """True if one of the sets has no other cells than these."""
    for some in sets:
        if all([cell in cells for cell in some]):
            return True
    return False


def equal_columns(case):
    """The ascending tuple of the columns in which the rows are known to be equal, if there are two."""
    if case.rows == 1:
        return ()
    equal = []
    for column in range(len(case.columns)):
        if are_equal(case, cell_at(case, 0, column), cell_at(case, 1, column)):
            equal.append(column)
    return tuple(equal)


def stand_is_stuck(columns, rules, rule, cells, value):
    """What is_stuck tells, for arguments that are checked."""
    if not is_stand(columns, rule_rows(rule), value):
        return False
    case = stand_case(columns, value)
    if not is_known_in(case, rule[0]):
        return False
    for row, column in cells:
        if case.known[cell_at(case, row, column)] is None:
            return False
    return next_move(rules, case) is None and not is_goal_known(case, rule_goal(columns, rule))


def is_stand(columns, rows, value):
    """True if the value is a stand for so many rows, with values of the columns, the same in equal cells."""
    if not isinstance(value, tuple) or len(value) != 2:
        return False
    known, equal = value
    if not isinstance(known, tuple) or len(known) != rows:
        return False
    for row in known:
        if not is_known_row(columns, row):
            return False
    if not is_column_set(columns, equal):
        return False
    if rows == 1:
        return len(equal) == 0
    return all([known[0][column] == known[1][column] for column in equal])


def is_known_row(columns, value):
    """True if the value is a tuple with a value or None for each column."""
    if not isinstance(value, tuple) or len(value) != len(columns):
        return False
    for column, one in zip(columns, value):
        if one is not None and not is_value_of(column, one):
            return False
    return True


def is_column_set(columns, value):
    """True if the value is an ascending tuple of different columns."""
    if not isinstance(value, tuple):
        return False
    for column in value:
        if not is_number(column, len(columns)):
            return False
    return is_ascending(value)


def stand_case(columns, stand):
    """The case in which all is known that is known in the stand."""
    known, equal = stand
    case = empty_case(columns, len(known))
    for row in range(len(known)):
        for column in range(len(columns)):
            if known[row][column] is not None:
                case = with_value(case, cell_at(case, row, column), known[row][column])
    for column in equal:
        case = with_equal_rows(case, column)
    return case


def is_known_in(case, given):
    """True if all rows are known to match the given, and to be equal in all of its columns."""
    for column, value in given:
        for row in range(case.rows):
            first, other = cell_at(case, 0, column), cell_at(case, row, column)
            if not are_equal(case, first, other):
                return False
            if value is not None and case.known[other] != value:
                return False
    return True
