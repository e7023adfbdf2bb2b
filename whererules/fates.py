"""Fates: whether all, some or none of the cheapest mends change a cell."""

from whererules.mends import check_costs_question
from whererules.prices import Ground, cheapest_corrections
from whererules.smalls import mask_of


def fates(columns, rules, small, costs, pinned):
    """The rows with the fate of each cell; None if no mend leaves the pinned cells."""
    check_costs_question(columns, rules, small, costs, pinned)
    return find_fates(Ground(columns, rules, small, costs), mask_of(small, pinned))


def find_fates(ground, pinned):
    """What fates returns, for a mask of pinned cells."""
    found = cheapest_corrections(ground, pinned)
    if len(found) == 0:
        return None
    columns, _, small = ground.question
    told = []
    for i in range(len(small)):
        first = i * len(columns)
        told.append(tuple([fate_among(found, number) for number in range(first, first + len(columns))]))
    return tuple(told)


def fate_among(found, number):
    """The fate of the cell with this number, where these are what the cheapest mends change."""
    changing = [mask for mask in found if (mask >> number) & 1 == 1]
    if len(changing) == 0:
        return "never"
    if len(changing) == len(found):
        return "always"
    return "sometimes"
