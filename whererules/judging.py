"""The forms of records, and their conditions."""

from whererules.breaks import list_breaks
from whererules.cases import draft_case
from whererules.columns import table_is_right
from whererules.drafts import draft_is_right, war_is_right
from whererules.forms import has_form
from whererules.prices import cost_of_change, costs_are_right, has_right_war, price_tree_is_right
from whererules.smalls import (
    all_cells, cells_of, cells_of_rows, has_any_in, kept_draft, mask_of, small_is_right, some_is_right)
from whererules.splits import is_cell_in
from whererules.trees import NAMED_JOIN, tree_is_right


def is_record(value):
    """True if the value is a tuple of one of the forms of records, by its first entry and its length."""
    return has_form(dict(RECORD_LENGTHS), value)


def first_wrong(form, columns, rules, entries):
    """The number of the first condition that does not hold, or None; entries are those behind the rules."""
    judge_entries = RECORD_JUDGES[form]
    return judge_entries(columns, rules, entries)


# Each of these gets the entries behind the rules, or the first of them, and returns the number
# of the first condition that does not hold, or None.


def judge_filled(columns, rules, entries):
    """A draft, and a filling of it."""
    draft, table = entries
    if not draft_is_right(columns, draft):
        return 0
    if not is_filling(columns, rules, draft, table):
        return 1
    return None


def judge_unfilled(columns, rules, entries):
    """A draft, and a war of it."""
    draft, war = entries
    if not draft_is_right(columns, draft):
        return 0
    if not war_is_right(columns, rules, draft, war):
        return 1
    return None


def judge_forced(columns, rules, entries):
    """A draft, a cell, a filling, and a force of the value that it has in the cell."""
    draft, cell, table, force = entries
    wrong = judge_first_filling(columns, rules, draft, cell, table)
    if wrong is not None:
        return wrong
    goal = ("value", cell[0] * len(columns) + cell[1], table[cell[0]][cell[1]])
    if not tree_is_right(rules, draft_case(columns, draft), goal, force, NAMED_JOIN):
        return 3
    return None


def judge_unforced(columns, rules, entries):
    """A draft, a cell, and two fillings that differ in the cell."""
    draft, cell, first, second = entries
    wrong = judge_first_filling(columns, rules, draft, cell, first)
    if wrong is not None:
        return wrong
    if not is_filling(columns, rules, draft, second):
        return 3
    if first[cell[0]][cell[1]] == second[cell[0]][cell[1]]:
        return 4
    return None


def judge_first_filling(columns, rules, draft, cell, table):
    """A draft, a cell of it, and a filling of it."""
    if not draft_is_right(columns, draft):
        return 0
    if not is_cell_in(cells_of_rows(draft), cell):
        return 1
    if not is_filling(columns, rules, draft, table):
        return 2
    return None


def judge_blame(columns, rules, entries):
    """A small table, cells, a war of them, and a filling of them without each one."""
    small, cells, war, fillings = entries
    if not small_is_right(columns, small):
        return 0
    if not some_is_right(small, cells):
        return 1
    if not war_is_right(columns, rules, kept_draft(small, cells), war):
        return 2
    if not isinstance(fillings, tuple) or len(fillings) != len(cells):
        return 3
    for cell, table in zip(cells, fillings):
        rest = kept_draft(small, [other for other in cells if other != cell])
        if not is_filling(columns, rules, rest, table):
            return 3
    return None


def judge_correction(columns, rules, entries):
    """A small table, cells, a mend that changes none but these, and for each one cells that blame it alone."""
    small, cells, table, blamed = entries
    if not small_is_right(columns, small):
        return 0
    if not some_is_right(small, cells):
        return 1
    if not is_mend_in(columns, rules, small, mask_of(small, cells), table):
        return 2
    if not isinstance(blamed, tuple) or len(blamed) != len(cells):
        return 3
    for cell, entry in zip(cells, blamed):
        if not is_blamed(columns, rules, small, entry):
            return 3
        if [other for other in cells if other in entry[0]] != [cell]:
            return 3
    return None


def judge_lists(columns, rules, entries):
    """A small table, and entries with all of its blames and with all of its least corrections."""
    small, blamed, corrected = entries
    if not small_is_right(columns, small):
        return 0
    if not isinstance(blamed, tuple) or not all([is_blamed(columns, rules, small, entry) for entry in blamed]):
        return 1
    if not isinstance(corrected, tuple) or not all([is_corrected(columns, rules, small, one) for one in corrected]):
        return 2
    blames = [mask_of(small, entry[0]) for entry in blamed]
    corrections = [mask_of(small, entry[0]) for entry in corrected]
    if not are_apart(blames) or not are_apart(corrections):
        return 3
    everything = all_cells(small)
    for mask in range(everything + 1):
        # A correction has no cell in common with the mask if it is among the other cells.
        if not has_any_in(blames, mask) and not has_any_in(corrections, everything - mask):
            return 4
    return None


def judge_mend(columns, rules, entries):
    """A small table, costs, pinned cells, a mend that leaves them, and a price tree of what it costs."""
    small, costs, pinned, table, tree = entries
    wrong = judge_costs(columns, small, costs, pinned)
    if wrong is not None:
        return wrong
    if not is_mend_beside(columns, rules, small, pinned, table):
        return 3
    number = cost_of_change(costs, small, table)
    if not price_tree_is_right((columns, rules, small), costs, pinned, (), number, tree):
        return 4
    return None


def judge_held(columns, rules, entries):
    """A small table, pinned cells, and a war of them."""
    small, pinned, war = entries
    if not small_is_right(columns, small):
        return 0
    if not some_is_right(small, pinned):
        return 1
    if not war_is_right(columns, rules, kept_draft(small, pinned), war):
        return 2
    return None


def judge_always(columns, rules, entries):
    """A cell, a mend, and a price tree of more than it costs, with the cell pinned, too."""
    small, costs, pinned, cell, table, tree = entries
    wrong = judge_fate(columns, rules, small, costs, pinned, cell, table)
    if wrong is not None:
        return wrong
    number = cost_of_change(costs, small, table) + 1
    if not price_tree_is_right((columns, rules, small), costs, pinned + (cell,), (), number, tree):
        return 5
    return None


def judge_never(columns, rules, entries):
    """A cell, a mend, and a price tree of more than it costs beside the cell, which is waived."""
    small, costs, pinned, cell, table, tree = entries
    wrong = judge_fate(columns, rules, small, costs, pinned, cell, table)
    if wrong is not None:
        return wrong
    number = cost_of_change(costs, small, table) + 1 - costs[cell[1]]
    if not price_tree_is_right((columns, rules, small), costs, pinned, (cell,), number, tree):
        return 5
    return None


def judge_sometimes(columns, rules, entries):
    """A cell, two mends that cost the same, of which one changes the cell, and a price tree of what they cost."""
    small, costs, pinned, cell, first, second, tree = entries
    wrong = judge_costs(columns, small, costs, pinned)
    if wrong is not None:
        return wrong
    if not is_cell_in(cells_of_rows(small), cell):
        return 3
    if not is_mend_beside(columns, rules, small, pinned, first) or not is_changed(small, cell, first):
        return 4
    if not is_mend_beside(columns, rules, small, pinned, second) or is_changed(small, cell, second):
        return 5
    number = cost_of_change(costs, small, first)
    if cost_of_change(costs, small, second) != number:
        return 6
    if not price_tree_is_right((columns, rules, small), costs, pinned, (), number, tree):
        return 7
    return None


def judge_fate(columns, rules, small, costs, pinned, cell, table):
    """A small table, costs, pinned cells, a cell that is not pinned, and a mend that leaves the pinned cells."""
    wrong = judge_costs(columns, small, costs, pinned)
    if wrong is not None:
        return wrong
    if not is_cell_in(cells_of_rows(small), cell) or cell in pinned:
        return 3
    if not is_mend_beside(columns, rules, small, pinned, table):
        return 4
    return None


def judge_costs(columns, small, costs, pinned):
    """A small table, costs, and pinned cells."""
    if not small_is_right(columns, small):
        return 0
    if not costs_are_right(columns, costs):
        return 1
    if not some_is_right(small, pinned):
        return 2
    return None


def is_filling(columns, rules, draft, value):
    """True if the value is a filling of the draft."""
    if not table_is_right(columns, value) or len(value) != len(draft):
        return False
    for row, told in zip(value, draft):
        for one, entry in zip(row, told):
            if entry is not None and one != entry:
                return False
    return len(list_breaks(rules, value)) == 0


def is_mend_in(columns, rules, small, mask, value):
    """True if the value is a mend of the small table that changes none but these cells."""
    return is_filling(columns, rules, kept_draft(small, cells_of(small, all_cells(small) - mask)), value)


def is_mend_beside(columns, rules, small, pinned, value):
    """True if the value is a mend of the small table that leaves the pinned cells."""
    return is_filling(columns, rules, kept_draft(small, pinned), value)


def is_changed(small, cell, table):
    """True if the table has another value in the cell than the small table."""
    return table[cell[0]][cell[1]] != small[cell[0]][cell[1]]


def is_blamed(columns, rules, small, value):
    """True if the value is a tuple (some, war) with a set of cells and a war of just these."""
    if not isinstance(value, tuple) or len(value) != 2:
        return False
    return has_right_war((columns, rules, small), (), value[0], value[1])


def is_corrected(columns, rules, small, value):
    """True if the value is a tuple (some, table) with a set of cells and a mend that changes none but these."""
    if not isinstance(value, tuple) or len(value) != 2 or not some_is_right(small, value[0]):
        return False
    return is_mend_in(columns, rules, small, mask_of(small, value[0]), value[1])


def are_apart(masks):
    """True if none of the masks has all cells of another one."""
    for k in range(len(masks)):
        if has_any_in(masks[:k] + masks[k + 1:], masks[k]):
            return False
    return True


RECORD_LENGTHS = {
    "filled": 5, "unfilled": 5, "forced": 7, "unforced": 7, "blame": 7, "correction": 7, "lists": 6, "mend": 8,
    "held": 6, "always": 9, "never": 9, "sometimes": 10}
RECORD_JUDGES = {
    "filled": judge_filled, "unfilled": judge_unfilled, "forced": judge_forced, "unforced": judge_unforced,
    "blame": judge_blame, "correction": judge_correction, "lists": judge_lists, "mend": judge_mend,
    "held": judge_held, "always": judge_always, "never": judge_never, "sometimes": judge_sometimes}
