"""Sure starts: settled columns from which all columns of a row of the master are settled."""

from itertools import combinations

from whererules.breaks import list_breaks
from whererules.columns import check_columns, check_table, is_number
from whererules.errors import Broken, InvalidNumber
from whererules.fixes import check_settled, finish
from whererules.rules import check_rules
from whererules.splits import has_one_of


def stop(columns, rules, master, number, settled):
    """A run from a row of the master that does not settle all columns, or None if there is none."""
    check_master_row(columns, rules, master, number)
    check_settled(columns, settled)
    check_unbroken(rules, master)
    # All runs from a row of the master end alike, so that any run will do.
    steps, _, done = finish(rules, master, master[number], settled)
    if len(done) == len(columns):
        return None
    return steps


def least_starts(columns, rules, master, number):
    """The ascending list of the least sure starts for a row of the master."""
    check_master_row(columns, rules, master, number)
    check_unbroken(rules, master)
    found = []
    for size in range(len(columns) + 1):
        for settled in combinations(range(len(columns)), size):
            _, _, done = finish(rules, master, master[number], settled)
            if len(done) == len(columns) and not has_one_of(found, settled):
                found.append(settled)
    return sorted(found)


def check_master_row(columns, rules, master, number):
    """Raises the error of the first of the arguments that is wrong, if one is."""
    check_columns(columns)
    check_rules(columns, rules)
    check_table(columns, master)
    if not is_number(number, len(master)):
        raise InvalidNumber("the master has no row with this number")


def check_unbroken(rules, master):
    """Raises Broken with the least break if the rules do not hold in the master."""
    found = list_breaks(rules, master)
    if len(found) > 0:
        raise Broken(found[0])
