"""What DOC.md says of mends, prices, price trees and fates, written once more and as plainly as can be."""

import oracle
from oracle_drafts import all_cells, differing, draft_of, is_war, right_some


def right_costs(columns, value):
    if type(value) is not tuple or len(value) != len(columns):
        return False
    return all(oracle.integer(cost) and cost in range(1, 10) for cost in value)


def cost_of(costs, cells, waived=()):
    return sum([costs[cell[1]] for cell in cells if cell not in waived])


def is_mend(columns, rules, small, pinned, value):
    """Whether the value is a mend that leaves the pinned cells."""
    if not oracle.right_table(columns, value) or len(value) != len(small) or not oracle.all_hold(rules, value):
        return False
    return not set(differing(small, value)) & set(pinned)


def is_mend_in(columns, rules, small, cells, value):
    """Whether the value is a mend that changes none but these cells."""
    return is_mend(columns, rules, small, [cell for cell in all_cells(small) if cell not in cells], value)


def changes(small, stands, pinned):
    """For each set with the pinned cells that can stand together all other cells, some of which a mend changes."""
    return [tuple([cell for cell in all_cells(small) if cell not in some])
            for some in stands if stands[some] and set(pinned) <= set(some)]


def lowest(small, stands, costs, pinned, waived=()):
    """The lowest cost of a mend that leaves the pinned cells, waived cells not counted; None if there is none."""
    return min([cost_of(costs, cells, waived) for cells in changes(small, stands, pinned)], default=None)


def fates_by(small, stands, costs, pinned):
    """The fates, out of the cells that each of the cheapest mends changes."""
    price = lowest(small, stands, costs, pinned)
    if price is None:
        return None
    cheapest = [cells for cells in changes(small, stands, pinned) if cost_of(costs, cells) == price]
    told = []
    for i, row in enumerate(small):
        many = [len([1 for cells in cheapest if (i, j) in cells]) for j in range(len(row))]
        told.append(tuple(["never" if n == 0 else "always" if n == len(cheapest) else "sometimes" for n in many]))
    return tuple(told)


def price_tree_judged(question, costs, pinned, waived, number, value, blamed=None):
    """Whether the value is a price tree of the number.

    If blames are given, every set of cells is to be one of them, and every war brisk.
    """
    columns, rules, small = question
    if type(value) is not tuple or len(value) not in (0, 3):
        return False
    if value == ():
        return number <= 0
    cells, war, trees = value
    if not right_some(small, cells) or set(cells) & set(waived) or (blamed is not None and cells not in blamed):
        return False
    if not is_war(columns, rules, draft_of(small, cells), war, brisk=blamed is not None):
        return False
    if type(trees) is not tuple or len(trees) != len(cells):
        return False
    for cell, tree in zip(cells, trees):
        left = number - costs[cell[1]]
        if not (tree is None and cell in pinned):
            if not price_tree_judged(question, costs, pinned, tuple(waived) + (cell,), left, tree, blamed):
                return False
    return True
