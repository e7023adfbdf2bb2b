"""Grids: what is known of the cells of some rows, as a list with one mark for each cell.

The number of a cell is its row times the count of columns, and its column. A mark that is
not less than 0 is the value that is known of the cell; the other marks stand for values that
are not known. Cells of a column have the same mark just if they are known to be equal.

Facts are a list of all that has become known, in its order, as tuples (head, cell, other):
a value of the cell if other is None, otherwise that the cell and the other one are equal.
The head is that of the step, join or split behind which it is known; None for a draft.
"""

from whererules.rules import fresh_value, is_value_rule


def draft_grid(draft):
    """The grid of the values of a draft."""
    grid = []
    for row in draft:
        for value in row:
            grid.append(-1 - len(grid) if value is None else value)
    return grid


def draft_facts(draft):
    """The facts of the values of a draft."""
    grid = draft_grid(draft)
    return [(None, cell, None) for cell in range(len(grid)) if grid[cell] >= 0]


def with_mark(grid, cell, mark):
    """The grid in which the cell has this mark; None if that is a clash."""
    kept, left = max(grid[cell], mark), min(grid[cell], mark)
    if 0 <= left < kept:
        return None
    return [kept if one == left else one for one in grid]


def settle(rules, width, grid, facts):
    """The grid behind all steps and joins that make anything known; None if that is a clash.

    Each of these steps and joins is added to the facts.
    """
    before = -1
    while before < len(facts):
        before = len(facts)
        for k in range(len(rules)):
            if is_value_rule(rules[k]):
                grid = step_rows(rules[k], k, width, grid, facts)
            else:
                grid = join_rows(rules[k], k, width, grid, facts)
            if grid is None:
                return None
    return grid


def step_rows(rule, k, width, grid, facts):
    """The grid behind all steps with the value rule k that make anything known; None if that is a clash."""
    given, column, want = rule
    for start in range(0, len(grid), width):
        if grid[start + column] != want and is_matched(given, grid, start):
            facts.append((("step", k, start // width), start + column, None))
            grid = with_mark(grid, start + column, want)
            if grid is None:
                return None
    return grid


def join_rows(rule, k, width, grid, facts):
    """The grid behind all joins with the pair rule k that make anything known; None if that is a clash."""
    given, column, _ = rule
    first = {}
    for start in range(0, len(grid), width):
        if is_matched(given, grid, start):
            key = tuple([grid[start + other] for other, _ in given])
            one, other = first.setdefault(key, start) + column, start + column
            if grid[one] != grid[other]:
                facts.append((("join", k, one // width, other // width), one, other))
                grid = with_mark(grid, other, grid[one])
                if grid is None:
                    return None
    return grid


def is_matched(given, grid, start):
    """True if the row whose cells begin here is known to match the given."""
    for column, value in given:
        if value is not None and grid[start + column] != value:
            return False
    return True


def next_split(columns, grid):
    """The first of the closed cells with no known value whose column has the fewest values; None if there is none."""
    found, fewest = None, None
    for cell in range(len(grid)):
        column = columns[cell % len(columns)]
        if grid[cell] < 0 and column is not None and (found is None or len(column) < fewest):
            found, fewest = cell, len(column)
    return found


def filled_grid(rules, width, grid, above=0):
    """The table of the known values, with values greater than all others, and than above, where none is known.

    Cells that are known to be equal get the same value, all others get different ones.
    """
    fresh = max([fresh_value(rules), above + 1] + [mark + 1 for mark in grid])
    return in_rows_of([mark if mark >= 0 else fresh - 1 - mark for mark in grid], width)


def in_rows_of(values, width):
    """The values of all cells as a tuple with a tuple for each row."""
    return tuple([tuple(values[start:start + width]) for start in range(0, len(values), width)])
