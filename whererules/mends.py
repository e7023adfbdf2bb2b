"""Mends of small tables: what they cost, and trees that show that nothing is cheaper."""

from whererules.blames import check_small_question
from whererules.errors import InvalidCells
from whererules.prices import (
    Ground, cheapest_mend, check_costs, check_integer, correction_below, find_price_tree, lowest_price, mend_in,
    price_tree_is_right)
from whererules.smalls import check_some, mask_of


def price(columns, rules, small, costs, pinned):
    """The lowest cost of a mend that leaves the pinned cells, or None."""
    check_costs_question(columns, rules, small, costs, pinned)
    return lowest_price(Ground(columns, rules, small, costs), mask_of(small, pinned))


def mend(columns, rules, small, costs, pinned):
    """A cheapest mend, or None."""
    check_costs_question(columns, rules, small, costs, pinned)
    return cheapest_mend(Ground(columns, rules, small, costs), mask_of(small, pinned))


def price_tree(columns, rules, small, costs, pinned, waived, number):
    """A price tree of the number, or None."""
    check_price_question(columns, rules, small, costs, pinned, waived, number)
    ground = Ground(columns, rules, small, costs)
    return find_price_tree(ground, mask_of(small, pinned), mask_of(small, waived), number)


def cheaper_mend(columns, rules, small, costs, pinned, waived, number):
    """A mend that leaves the pinned cells and costs less than the number, waived cells not counted, or None."""
    check_price_question(columns, rules, small, costs, pinned, waived, number)
    ground = Ground(columns, rules, small, costs)
    mask = correction_below(ground, mask_of(small, pinned), mask_of(small, waived), number)
    if mask is None:
        return None
    return mend_in(ground, mask)


def is_price_tree(columns, rules, small, costs, pinned, waived, number, value):
    """True if the value is a price tree of the number."""
    check_price_question(columns, rules, small, costs, pinned, waived, number)
    return price_tree_is_right((columns, rules, small), costs, pinned, waived, number, value)


def check_costs_question(columns, rules, small, costs, pinned):
    """Raises the error of the first of the arguments that is wrong, if one is."""
    check_small_question(columns, rules, small)
    check_costs(columns, costs)
    check_some(small, pinned)


def check_price_question(columns, rules, small, costs, pinned, waived, number):
    """Raises the error of the first of the arguments that is wrong, or of cells that are pinned and waived."""
    check_costs_question(columns, rules, small, costs, pinned)
    check_some(small, waived)
    if mask_of(small, pinned) & mask_of(small, waived) != 0:
        raise InvalidCells("a cell is both pinned and waived")
    check_integer(number)
