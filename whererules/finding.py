"""The rules of a table: the most general ones that hold in it for so many rows."""

from whererules.breaks import broken_rows, check_count
from whererules.columns import check_columns, check_table
from whererules.covers import next_general
from whererules.rules import has_given


def found_rules(columns, table, number):
    """A list of all rules that are found in the table with the number, each once."""
    check_columns(columns)
    check_table(columns, table)
    check_count(number)
    found = []
    for rule in possible_rules(columns, table):
        if is_found(rule, table, number):
            found.append(rule)
    return found


def possible_rules(columns, table):
    """Rules with values of the table, each once, among them all that a row of the table matches and keeps."""
    rules = {}
    for row in table:
        for column in range(len(columns)):
            others = [other for other in range(len(columns)) if other != column]
            for given in givens_of(row, others, False):
                rules[(given, column, row[column])] = True
            for given in givens_of(row, others, True):
                rules[(given, column, None)] = True
    return list(rules)


def givens_of(row, columns, has_blanks):
    """The givens with the values of the row, or with blank entries if there may be any, in some of the columns."""
    found = [()]
    for column in columns:
        parts = [(), ((column, row[column]),)]
        if has_blanks:
            parts.append(((column, None),))
        found = [given + part for given in found for part in parts]
    return found


def is_found(rule, table, number):
    """True if the rule, one of possible_rules, is found in the table with the number."""
    matching = [row for row in table if has_given(rule[0], row)]
    if len(matching) < number or len(broken_rows(rule, table)) > 0:
        return False
    # A more general rule has no other values, and no fewer rows match it: it need only hold.
    for general in next_general(rule):
        if len(broken_rows(general, table)) == 0:
            return False
    return True
