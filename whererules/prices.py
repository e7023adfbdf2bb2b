"""What mends of a small table cost, and price trees, which show that nothing is cheaper.

Sets of cells are masks here, as in smalls, but for those that come from outside or go there.
"""

from whererules.columns import is_integer
from whererules.drafts import draft_filling, war_is_right
from whererules.errors import InvalidNumber
from whererules.faults import InvalidCosts
from whererules.proofs import prove_draft
from whererules.smalls import (
    all_cells, cells_of, cells_of_rows, changed_cells, find_blames, find_corrections, kept_draft, some_is_right)

LEAST_COST = 1
MOST_COST = 9


class Ground:
    """A small table with its rules and costs, and with what is found out about it for all pinned and waived cells.

    question is (columns, rules, small). weights has the cost of each cell, blamed the masks of
    the blames, and corrected those of the least corrections. wars keeps the wars of blames.
    """

    def __init__(self, columns, rules, small, costs):
        self.question = (columns, rules, small)
        self.weights = [costs[column] for _, column in cells_of_rows(small)]
        self.blamed = find_blames(columns, rules, small)
        self.corrected = find_corrections(small, self.blamed)
        self.wars = {}


def is_cost(value):
    """True if the value is the cost of a column."""
    return is_integer(value) and LEAST_COST <= value <= MOST_COST


def costs_are_right(columns, value):
    """True if the value is costs, for columns that are checked."""
    if not isinstance(value, tuple) or len(value) != len(columns):
        return False
    return all([is_cost(cost) for cost in value])


def check_costs(columns, costs):
    """Raises InvalidCosts if the argument is no costs."""
    if not costs_are_right(columns, costs):
        raise InvalidCosts("these are no costs of the columns")


def check_integer(number):
    """Raises InvalidNumber if the argument is no integer."""
    if not is_integer(number):
        raise InvalidNumber("this is no integer")


def numbers_in(mask):
    """The ascending list of the numbers of the cells of a mask."""
    return [number for number in range(mask.bit_length()) if (mask >> number) & 1 == 1]


def weight_of(ground, mask):
    """What it costs to change these cells."""
    return sum([ground.weights[number] for number in numbers_in(mask)])


def cost_of_change(costs, small, table):
    """What a table of as many rows costs, as a mend of the small table."""
    return sum([costs[column] for _, column in cells_of(small, changed_cells(small, table))])


def free_corrections(ground, pinned):
    """The least corrections without pinned cells."""
    return [mask for mask in ground.corrected if mask & pinned == 0]


def cheapest_corrections(ground, pinned):
    """The corrections that the cheapest mends change; there are none if no mend leaves the pinned cells."""
    found = free_corrections(ground, pinned)
    fewest = min([weight_of(ground, mask) for mask in found], default=None)
    return [mask for mask in found if weight_of(ground, mask) == fewest]


def lowest_price(ground, pinned):
    """The price, or None."""
    found = cheapest_corrections(ground, pinned)
    if len(found) == 0:
        return None
    return weight_of(ground, found[0])


def correction_below(ground, pinned, waived, number):
    """A correction without pinned cells that costs less than the number, waived cells not counted, or None."""
    for mask in free_corrections(ground, pinned):
        if weight_of(ground, mask - (mask & waived)) < number:
            return mask
    return None


def mend_in(ground, mask):
    """A mend that changes no other cells than those of a correction."""
    columns, rules, small = ground.question
    return draft_filling(columns, rules, kept_draft(small, cells_of(small, all_cells(small) - mask)))


def cheapest_mend(ground, pinned):
    """A cheapest mend, or None."""
    found = cheapest_corrections(ground, pinned)
    if len(found) == 0:
        return None
    return mend_in(ground, found[0])


def war_of_blame(ground, mask):
    """A brisk war of a blame."""
    if mask not in ground.wars:
        columns, rules, small = ground.question
        ground.wars[mask] = prove_draft(columns, rules, kept_draft(small, cells_of(small, mask)), None)[0]
    return ground.wars[mask]


def find_price_tree(ground, pinned, waived, number):
    """A price tree of the number with blames as sets of cells and brisk wars; None if there is none."""
    if correction_below(ground, pinned, waived, number) is not None:
        return None
    return grown_price_tree(ground, pinned, waived, number, {})


def grown_price_tree(ground, pinned, waived, number, grown):
    """A price tree of the number, where there is one; grown has those parts of it that are made already."""
    if number <= 0:
        return ()
    # The cells that are waived tell what is left of the number, too.
    if waived not in grown:
        mask = handy_blame(ground, pinned, waived)
        trees = []
        for cell in numbers_in(mask):
            if (pinned >> cell) & 1 == 1:
                trees.append(None)
            else:
                left = number - ground.weights[cell]
                trees.append(grown_price_tree(ground, pinned, waived + (1 << cell), left, grown))
        small = ground.question[2]
        grown[waived] = (cells_of(small, mask), war_of_blame(ground, mask), tuple(trees))
    return grown[waived]


def handy_blame(ground, pinned, waived):
    """The blame without waived cells that has the fewest cells that are not pinned."""
    # Any blame without waived cells would do: if all mends cost so much, then with one cell more that is not
    # counted they cost no less than that without the cost of this cell.
    found = [mask for mask in ground.blamed if mask & waived == 0]
    fewest = min([len(numbers_in(mask - (mask & pinned))) for mask in found])
    return [mask for mask in found if len(numbers_in(mask - (mask & pinned))) == fewest][0]


def price_tree_is_right(question, costs, pinned, waived, number, value):
    """True if the value is a price tree of the number; question is (columns, rules, small), the cells are tuples."""
    if not isinstance(value, tuple):
        return False
    if len(value) == 0:
        return number <= 0
    if len(value) != 3 or not has_right_war(question, waived, value[0], value[1]):
        return False
    cells, _, trees = value
    if not isinstance(trees, tuple) or len(trees) != len(cells):
        return False
    for cell, tree in zip(cells, trees):
        left = number - costs[cell[1]]
        if tree is None:
            if cell not in pinned:
                return False
        elif not price_tree_is_right(question, costs, pinned, waived + (cell,), left, tree):
            return False
    return True


def has_right_war(question, waived, cells, war):
    """True if the cells are a set of cells, none of them waived, and the war is one of just these."""
    columns, rules, small = question
    if not some_is_right(small, cells):
        return False
    for cell in cells:
        if cell in waived:
            return False
    return war_is_right(columns, rules, kept_draft(small, cells), war)
