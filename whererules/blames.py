"""Blames and corrections: which cells of a small table cannot stand together, and which must change."""

from whererules.columns import check_columns
from whererules.drafts import draft_filling
from whererules.rules import check_rules
from whererules.smalls import cells_of, check_small, check_some, find_blames, find_corrections, kept_draft


def can_stand(columns, rules, small, some):
    """True if these cells can stand together."""
    check_small_question(columns, rules, small)
    check_some(small, some)
    return draft_filling(columns, rules, kept_draft(small, some)) is not None


def blames(columns, rules, small):
    """The ascending list of the blames."""
    check_small_question(columns, rules, small)
    return sorted([cells_of(small, mask) for mask in find_blames(columns, rules, small)])


def least_corrections(columns, rules, small):
    """The ascending list of the least corrections."""
    check_small_question(columns, rules, small)
    blamed = find_blames(columns, rules, small)
    return sorted([cells_of(small, mask) for mask in find_corrections(small, blamed)])


def check_small_question(columns, rules, small):
    """Raises the error of the first of the arguments that is wrong, if one is."""
    check_columns(columns)
    check_rules(columns, rules)
    check_small(columns, small)
