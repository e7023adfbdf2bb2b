"""Peace and war: whether there is a row that keeps all rules."""

from whererules.cases import closed_cells, empty_case, filled_rows
from whererules.columns import check_columns
from whererules.rules import check_rules, fresh_value
from whererules.trees import prove, tree_is_right


def peaceful_row(columns, rules):
    """A row that keeps the rules, or None."""
    _, left = peace_or_war(columns, rules)
    if left is None:
        return None
    return filled_rows(left, fresh_value(rules))[0]


def war(columns, rules):
    """A war of the rules, or None."""
    found, _ = peace_or_war(columns, rules)
    return found


def is_war(columns, rules, value):
    """True if the value is a war of the rules."""
    check_columns(columns)
    check_rules(columns, rules)
    return tree_is_right(rules, empty_case(columns, 1), None, value)


def peace_or_war(columns, rules):
    """A war and None, or None and a case in which the rules can be kept."""
    check_columns(columns)
    check_rules(columns, rules)
    return prove(rules, empty_case(columns, 1), None, closed_cells(columns, 1))
