"""Drafts: tables with gaps, whether they have a filling, and what all of their fillings have."""

from whererules.cases import draft_case
from whererules.columns import MOST_ROWS, check_columns
from whererules.errors import AtWar
from whererules.faults import InvalidDraft
from whererules.grids import draft_grid, filled_grid, in_rows_of, next_split, settle, with_mark
from whererules.proofs import prove_draft
from whererules.rules import check_rules
from whererules.splits import is_known_row
from whererules.trees import NAMED_JOIN, tree_is_right

MOST_GAPS = 6


def is_draft(columns, value):
    """True if the value is a draft."""
    check_columns(columns)
    return draft_is_right(columns, value)


def filling(columns, rules, draft):
    """A filling of the draft, or None."""
    check_draft_question(columns, rules, draft)
    return draft_filling(columns, rules, draft)


def draft_war(columns, rules, draft):
    """A brisk war of the draft, or None."""
    check_draft_question(columns, rules, draft)
    return prove_draft(columns, rules, draft, None)[0]


def is_draft_war(columns, rules, draft, value):
    """True if the value is a war of the draft."""
    check_draft_question(columns, rules, draft)
    return war_is_right(columns, rules, draft, value)


def forced_cells(columns, rules, draft):
    """The rows with the value of each cell that the draft forces, and None for the other cells."""
    check_draft_question(columns, rules, draft)
    war, left = prove_draft(columns, rules, draft, None)
    if war is not None:
        raise AtWar(war)
    # What is not known in a filling may be any value there, so only what is known may be forced.
    forced = [mark if mark >= 0 else None for mark in left]
    keep_forced(columns, rules, draft_grid(draft), forced)
    return in_rows_of(forced, len(columns))


def draft_is_right(columns, value):
    """What is_draft tells, for columns that are checked."""
    if not isinstance(value, tuple) or len(value) > MOST_ROWS:
        return False
    gaps = 0
    for row in value:
        if not is_known_row(columns, row):
            return False
        for column, one in zip(columns, row):
            if column is not None and one is None:
                gaps += 1
    return gaps <= MOST_GAPS


def check_draft(columns, draft):
    """Raises InvalidDraft if the argument is no draft."""
    if not draft_is_right(columns, draft):
        raise InvalidDraft("this is no draft of the columns")


def check_draft_question(columns, rules, draft):
    """Raises the error of the first of the arguments that is wrong, if one is."""
    check_columns(columns)
    check_rules(columns, rules)
    check_draft(columns, draft)


def draft_filling(columns, rules, draft):
    """What filling returns, for arguments that are checked."""
    _, left = prove_draft(columns, rules, draft, None)
    if left is None:
        return None
    return filled_grid(rules, len(columns), left)


def war_is_right(columns, rules, draft, value):
    """What is_draft_war tells, for arguments that are checked."""
    return tree_is_right(rules, draft_case(columns, draft), None, value, NAMED_JOIN)


def keep_forced(columns, rules, grid, forced):
    """Puts None for each of the forced values that some filling has not, of those in which the grid is known."""
    grid = settle(rules, len(columns), grid, [])
    if grid is None or have_all(grid, forced):
        return
    cell = next_split(columns, grid)
    if cell is None:
        for place in range(len(forced)):
            if forced[place] != grid[place]:
                forced[place] = None
    else:
        for value in columns[cell % len(columns)]:
            keep_forced(columns, rules, with_mark(grid, cell, value), forced)


def have_all(grid, forced):
    """True if all forced values are known."""
    for mark, value in zip(grid, forced):
        if value is not None and value != mark:
            return False
    return True
