"""Small tables, and sets of their cells.

Inside the package a set of cells is a mask: an integer whose bit i tells of the cell number i,
where the number of a cell is its row times the count of columns, and its column.
"""

from itertools import combinations

from whererules.columns import table_is_right
from whererules.drafts import draft_filling
from whererules.errors import InvalidCells, InvalidTable
from whererules.splits import cells_are_right

MOST_SMALL_ROWS = 3
MOST_SMALL_CELLS = 9


def small_is_right(columns, value):
    """True if the value is a small table, for columns that are checked."""
    if not table_is_right(columns, value):
        return False
    return len(value) <= most_rows(columns)


def most_rows(columns):
    """How many rows a small table may have."""
    return min(MOST_SMALL_ROWS, MOST_SMALL_CELLS // len(columns))


def check_small(columns, small):
    """Raises InvalidTable if the argument is no small table."""
    if not small_is_right(columns, small):
        raise InvalidTable("this is no small table of the columns")


def check_some(small, some):
    """Raises InvalidCells if the argument is no set of cells of the small table."""
    if not some_is_right(small, some):
        raise InvalidCells("this is no set of cells of the table")


def some_is_right(rows, value):
    """True if the value is a set of cells of the rows of a table or a draft."""
    return cells_are_right(cells_of_rows(rows), value)


def cells_of_rows(rows):
    """The ascending tuple of the cells (row, column) of the rows of a table or a draft."""
    cells = []
    for row in range(len(rows)):
        for column in range(len(rows[row])):
            cells.append((row, column))
    return tuple(cells)


def all_cells(small):
    """The mask of all cells."""
    return (1 << len(cells_of_rows(small))) - 1


def mask_of(small, some):
    """The mask of a set of cells."""
    cells = cells_of_rows(small)
    mask = 0
    for number in range(len(cells)):
        if cells[number] in some:
            mask += 1 << number
    return mask


def cells_of(small, mask):
    """The set of cells of a mask."""
    cells = cells_of_rows(small)
    return tuple([cells[number] for number in range(len(cells)) if (mask >> number) & 1 == 1])


def changed_cells(small, table):
    """The mask of the cells in which a table of as many rows differs from the small table."""
    return mask_of(small, [(i, j) for i, j in cells_of_rows(small) if small[i][j] != table[i][j]])


def kept_draft(small, some):
    """The draft that has the values of the small table in just these cells."""
    draft = []
    for i in range(len(small)):
        draft.append(tuple([small[i][j] if (i, j) in some else None for j in range(len(small[i]))]))
    return tuple(draft)


def has_any_in(masks, mask):
    """True if one of the masks has no other cells than this one."""
    for one in masks:
        if one & mask == one:
            return True
    return False


def find_blames(columns, rules, small):
    """The masks of the blames."""
    everything = all_cells(small)
    found, fallen = [], []
    for mask in by_size(everything):
        # Cells stand together if they are among those that some table has kept.
        if not has_any_in(found, mask) and not has_any_in(fallen, everything - mask):
            table = draft_filling(columns, rules, kept_draft(small, cells_of(small, mask)))
            if table is None:
                found.append(mask)
            else:
                fallen.append(changed_cells(small, table))
    return found


def find_corrections(small, blamed):
    """The masks of the least corrections, where these are the masks of the blames."""
    everything = all_cells(small)
    found = []
    for mask in by_size(everything):
        if not has_any_in(found, mask) and not has_any_in(blamed, everything - mask):
            found.append(mask)
    return found


def by_size(everything):
    """All masks, those of fewer cells first."""
    many = everything.bit_length()
    found = []
    for size in range(many + 1):
        for some in combinations(range(many), size):
            found.append(sum([1 << number for number in some]))
    return found
