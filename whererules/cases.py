"""Cases: what is known of the cells of some rows."""

from whererules.columns import is_value_of


class Case:
    """What is known of the cells of some rows. A case is never changed once it is made.

    The number of a cell is its row times the count of columns, and its column.
    known has the value of each cell, or None. group has a mark for each cell: cells
    that are known to be equal, directly or over others, have the same mark, and no
    two marks stand for cells of one group. clash is True if the case is a clash.
    """

    def __init__(self, columns, rows, known, group, clash):
        self.columns = columns
        self.rows = rows
        self.known = known
        self.group = group
        self.clash = clash


def empty_case(columns, rows):
    """The case of so many rows of which nothing is known."""
    cells = rows * len(columns)
    return Case(columns, rows, [None] * cells, list(range(cells)), False)


def given_case(columns, given, rows):
    """The case of so many rows that match the given and are equal in all of its columns."""
    case = empty_case(columns, rows)
    for column, value in given:
        if value is None:
            case = with_equal_rows(case, column)
        else:
            case = with_value_in_rows(case, column, value)
    return case


def draft_case(columns, draft):
    """The case of a draft: the values that it has are known."""
    known = [value for row in draft for value in row]
    return Case(columns, len(draft), known, list(range(len(known))), False)


def cell_at(case, row, column):
    """The number of the cell of a row in a column."""
    return row * len(case.columns) + column


def with_value(case, cell, value):
    """The case in which it is known, too, that the cell has the value."""
    known = list(case.known)
    clash = case.clash
    for other in range(len(known)):
        if case.group[other] == case.group[cell]:
            known[other] = value
            if not may_have(case, other, value):
                clash = True
    return Case(case.columns, case.rows, known, case.group, clash)


def may_have(case, cell, value):
    """True if the value is one of the column of the cell, and no other value is known of it."""
    if case.known[cell] is not None and case.known[cell] != value:
        return False
    return is_value_of(case.columns[cell % len(case.columns)], value)


def with_equal(case, one, other):
    """The case in which it is known, too, that the two cells are equal."""
    kept, left = case.group[one], case.group[other]
    group = [kept if mark == left else mark for mark in case.group]
    merged = Case(case.columns, case.rows, case.known, group, case.clash)
    for value in (case.known[one], case.known[other]):
        if value is not None:
            merged = with_value(merged, one, value)
    return merged


def with_value_in_rows(case, column, value):
    """The case in which it is known, too, that all rows have the value in the column."""
    for row in range(case.rows):
        case = with_value(case, cell_at(case, row, column), value)
    return case


def with_equal_rows(case, column):
    """The case in which it is known, too, that all rows are equal in the column."""
    for row in range(1, case.rows):
        case = with_equal(case, cell_at(case, 0, column), cell_at(case, row, column))
    return case


def are_equal(case, one, other):
    """True if it is known that the two cells are equal, or that they have the same value."""
    if case.group[one] == case.group[other]:
        return True
    return case.known[one] is not None and case.known[one] == case.known[other]


def split_cases(case, row, column):
    """The cases in which it is known, too, that the cell has a value of its closed column."""
    cell = cell_at(case, row, column)
    return [with_value(case, cell, value) for value in case.columns[column]]


def closed_cells(columns, rows):
    """The ascending tuple of the cells (row, column) of so many rows in closed columns."""
    cells = []
    for row in range(rows):
        for column in range(len(columns)):
            if columns[column] is not None:
                cells.append((row, column))
    return tuple(cells)


def in_rows(case, values):
    """The values of all cells as a tuple with a tuple for each row."""
    width = len(case.columns)
    return tuple([tuple(values[row * width:(row + 1) * width]) for row in range(case.rows)])


def filled_rows(case, fresh):
    """The rows with the known values, and with values from fresh on where none is known.

    Cells that are known to be equal get the same value, all others get different ones.
    """
    values = []
    for cell in range(len(case.known)):
        if case.known[cell] is None:
            values.append(fresh + case.group[cell])
        else:
            values.append(case.known[cell])
    return in_rows(case, values)
