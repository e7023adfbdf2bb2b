"""Records, which show what is said of drafts, blames, corrections, mends and fates, and the judge of records."""

from whererules.blames import check_small_question
from whererules.columns import check_columns
from whererules.drafts import check_draft_question, draft_filling
from whererules.errors import AtWar, InvalidCells
from whererules.fates import fate_among
from whererules.faults import NotARecord
from whererules.forms import verdict
from whererules.grids import filled_grid
from whererules.judging import first_wrong, is_record
from whererules.mends import check_costs_question
from whererules.prices import (
    Ground, cheapest_corrections, cheapest_mend, find_price_tree, lowest_price, mend_in, war_of_blame)
from whererules.proofs import prove_draft
from whererules.rules import check_rules
from whererules.smalls import (
    all_cells, cells_of, cells_of_rows, check_some, find_blames, find_corrections, has_any_in, kept_draft, mask_of)
from whererules.splits import is_cell_in


def forced_record(columns, rules, draft, cell):
    """A record "forced" of the cell, or a record "unforced" of it."""
    check_draft_question(columns, rules, draft)
    check_cell(draft, cell)
    war, left = prove_draft(columns, rules, draft, None)
    if war is not None:
        raise AtWar(war)
    table = filled_grid(rules, len(columns), left)
    row, column = cell
    value = table[row][column]
    force, left = prove_draft(columns, rules, draft, (row * len(columns) + column, value))
    if force is not None:
        return ("forced", columns, rules, draft, cell, table, force)
    # The value may have been made up, and is not to be made up once more.
    return ("unforced", columns, rules, draft, cell, table, filled_grid(rules, len(columns), left, value))


def lists_record(columns, rules, small):
    """A record "lists" of the small table."""
    check_small_question(columns, rules, small)
    blamed = find_blames(columns, rules, small)
    corrected = find_corrections(small, blamed)
    shown = tuple([(some, some_war(columns, rules, small, some)) for some in sorted_cells(small, blamed)])
    mended = tuple([(some, some_mend(columns, rules, small, some)) for some in sorted_cells(small, corrected)])
    return ("lists", columns, rules, small, shown, mended)


def blame_record(columns, rules, small, some):
    """A record "blame" of the cells, or None if they are no blame."""
    check_small_question(columns, rules, small)
    check_some(small, some)
    war = some_war(columns, rules, small, some)
    if war is None:
        return None
    fillings = []
    for cell in some:
        table = draft_filling(columns, rules, kept_draft(small, [other for other in some if other != cell]))
        if table is None:
            return None
        fillings.append(table)
    return ("blame", columns, rules, small, some, war, tuple(fillings))


def correction_record(columns, rules, small, some):
    """A record "correction" of the cells, or None if they are no least correction."""
    check_small_question(columns, rules, small)
    check_some(small, some)
    table = some_mend(columns, rules, small, some)
    if table is None:
        return None
    blamed = []
    for one in sorted_cells(small, find_blames(columns, rules, small)):
        blamed.append((one, [cell for cell in one if cell in some]))
    shown = []
    for cell in some:
        # The others are a correction, too, just if no blame has this cell as the only one of them.
        alone = [one for one, common in blamed if common == [cell]]
        if len(alone) == 0:
            return None
        shown.append((alone[0], some_war(columns, rules, small, alone[0])))
    return ("correction", columns, rules, small, some, table, tuple(shown))


def fate_record(columns, rules, small, costs, pinned, cell):
    """A record of the fate of the cell; None if no mend leaves the pinned cells, or the cell is pinned."""
    check_costs_question(columns, rules, small, costs, pinned)
    check_cell(small, cell)
    ground, held, one = Ground(columns, rules, small, costs), mask_of(small, pinned), mask_of(small, (cell,))
    found = cheapest_corrections(ground, held)
    if len(found) == 0 or cell in pinned:
        return None
    number, asked = lowest_price(ground, held), (columns, rules, small, costs, pinned, cell)
    fate = fate_among(found, cells_of_rows(small).index(cell))
    if fate == "sometimes":
        first = [mask for mask in found if mask & one != 0][0]
        second = [mask for mask in found if mask & one == 0][0]
        tree = find_price_tree(ground, held, 0, number)
        return (fate,) + asked + (mend_in(ground, first), mend_in(ground, second), tree)
    if fate == "always":
        tree = find_price_tree(ground, held + one, 0, number + 1)
    else:
        tree = find_price_tree(ground, held, one, number + 1 - costs[cell[1]])
    return (fate,) + asked + (mend_in(ground, found[0]), tree)


def judge(record):
    """("right",), or ("wrong", k) with the number of the first condition that does not hold."""
    if not is_record(record):
        raise NotARecord("this is no tuple of one of the forms")
    form, columns, rules = record[:3]
    check_columns(columns)
    check_rules(columns, rules)
    return verdict(first_wrong(form, columns, rules, record[3:]))


def check_cell(rows, cell):
    """Raises InvalidCells if the argument is no cell of the rows of a table or a draft."""
    if not is_cell_in(cells_of_rows(rows), cell):
        raise InvalidCells("there is no such cell")


def sorted_cells(small, masks):
    """The ascending list of the sets of cells of the masks."""
    return sorted([cells_of(small, mask) for mask in masks])


def some_war(columns, rules, small, some):
    """A brisk war of just these cells, or None."""
    return prove_draft(columns, rules, kept_draft(small, some), None)[0]


def some_mend(columns, rules, small, some):
    """A mend that changes none but these cells, or None."""
    return draft_filling(columns, rules, kept_draft(small, cells_of(small, all_cells(small) - mask_of(small, some))))


def mend_record(ground, costs, pinned):
    """A record "mend" of a cheapest mend, or a record "held" of all pinned cells."""
    columns, rules, small = ground.question
    held = mask_of(small, pinned)
    table = cheapest_mend(ground, held)
    if table is None:
        return ("held", columns, rules, small, pinned, some_war(columns, rules, small, pinned))
    tree = find_price_tree(ground, held, 0, lowest_price(ground, held))
    return ("mend", columns, rules, small, costs, pinned, table, tree)


def blame_of_pinned(ground, pinned):
    """The cells of a blame that are all pinned, and a brisk war of it, where no mend leaves the pinned cells."""
    small = ground.question[2]
    held = mask_of(small, pinned)
    mask = [one for one in ground.blamed if has_any_in([one], held)][0]
    return cells_of(small, mask), war_of_blame(ground, mask)
