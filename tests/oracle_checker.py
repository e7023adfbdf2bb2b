"""What DOC.md says of certificates: the conditions of each form, in their order."""

import oracle
import oracle_fixes
from oracle_covers import cover_conditions


def first_wrong(conditions):
    """What the checker says, for conditions that are functions without arguments."""
    for number, condition in enumerate(conditions):
        if not condition():
            return ("wrong", number)
    return ("right",)


def conditions_of(certificate):
    """The conditions of a certificate of one of the forms, with right columns and rules."""
    form, columns, rules, *rest = certificate
    return FORMS[form](columns, rules, *rest)


def row_conditions(columns, rules, row):
    return [lambda: oracle.right_row(columns, row), lambda: oracle.all_hold(rules, (row,))]


def war_conditions(columns, rules, tree):
    return [lambda: oracle.war_judged(columns, rules, tree)]


def tree_conditions(columns, rules, rule, tree):
    return [lambda: oracle.right_rule(columns, rule), lambda: oracle.rule_tree_judged(columns, rules, rule, tree)]


def count_conditions(columns, rules, table, number, tree):
    return [lambda: oracle.right_table(columns, table), lambda: oracle.integer(number) and 1 <= number <= 8,
            lambda: oracle.count_tree_judged(rules, table, number, tree)]


def right_cells(columns, rule, value):
    closed = oracle.closed_cells(columns, rule)
    if type(value) is not tuple or not all(type(cell) is tuple and len(cell) == 2 for cell in value):
        return False
    if not all(oracle.integer(one) for cell in value for one in cell) or not set(value) <= set(closed):
        return False
    return list(value) == sorted(set(value))


def stuck_conditions(columns, rules, rule, cells, stand):
    return [lambda: oracle.right_rule(columns, rule), lambda: right_cells(columns, rule, cells),
            lambda: oracle.stand_judged(columns, rules, rule, cells, stand)]


def against_conditions(columns, rules, rule, table):
    return [lambda: oracle.right_rule(columns, rule),
            lambda: oracle.right_table(columns, table) and len(table) == oracle.rows_of(rule),
            lambda: oracle.all_hold(rules, table), lambda: not oracle.rule_holds(rule, table)]


def start_conditions(columns, master, row, settled):
    return [lambda: oracle.right_table(columns, master), lambda: oracle.right_row(columns, row),
            lambda: oracle_fixes.right_settled(columns, settled)]


def run_conditions(columns, rules, master, row, settled, run):
    return start_conditions(columns, master, row, settled) + [
        lambda: oracle_fixes.end_of(rules, master, row, settled, run) is not None,
        lambda: oracle_fixes.is_run(rules, master, row, settled, run)]


def guards_listed(columns, settled, value):
    if type(value) is not tuple or not all(type(entry) is tuple and len(entry) == 2 for entry in value):
        return False
    others = [column for column in range(len(columns)) if column not in settled]
    return all(oracle.integer(entry[0]) for entry in value) and [entry[0] for entry in value] == others


def alike_conditions(columns, rules, master, row, settled, run, guards):
    def end():
        return oracle_fixes.end_of(rules, master, row, settled, run)

    return start_conditions(columns, master, row, settled) + [
        lambda: oracle_fixes.is_run(rules, master, row, settled, run),
        lambda: guards_listed(columns, settled, guards),
        lambda: oracle_fixes.guards_judged(columns, rules, master, settled, end(), guards)]


def parts_conditions(columns, rules, master, row, settled, first, second):
    return start_conditions(columns, master, row, settled) + [
        lambda: all(oracle_fixes.is_run(rules, master, row, settled, steps) for steps in (first, second)),
        lambda: oracle_fixes.part(first, second)]


FORMS = {
    "row": row_conditions, "war": war_conditions, "tree": tree_conditions, "count": count_conditions,
    "stuck": stuck_conditions, "against": against_conditions, "cover": cover_conditions, "run": run_conditions,
    "alike": alike_conditions, "parts": parts_conditions}
LENGTHS = {
    "row": 4, "war": 4, "tree": 5, "count": 6, "stuck": 6, "against": 5, "cover": 4, "run": 7, "alike": 8, "parts": 8}
