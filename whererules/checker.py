"""The checker of certificates."""

from whererules.breaks import MOST_COUNT, broken_rows, count_tree_is_right, list_breaks
from whererules.cases import closed_cells, empty_case
from whererules.columns import check_columns, is_integer, row_is_right, table_is_right
from whererules.covers import all_follow, are_most_general, check_peace, needless_rules
from whererules.errors import NotACertificate
from whererules.fixes import guard_is_right, possible_steps, steps_end
from whererules.forms import has_form, verdict
from whererules.rules import check_rules, rule_is_right, rules_are_right
from whererules.splits import cells_are_right, is_column_set, stand_is_stuck
from whererules.trees import rule_case, rule_goal, rule_rows, tree_is_right


def check(certificate):
    """("right",), or ("wrong", k) with the number of the first condition that does not hold."""
    if not has_form(dict(LENGTHS), certificate):
        raise NotACertificate("this is no tuple of one of the forms")
    form, columns, rules = certificate[:3]
    check_columns(columns)
    check_rules(columns, rules)
    if form == "cover":
        check_peace(columns, rules)
    judge = JUDGES[form]
    return verdict(judge(columns, rules, certificate[3:]))


# Each judge gets the entries behind the rules, and returns the number of the first condition
# that does not hold, or None.


def judge_row(columns, rules, entries):
    """A row that keeps the rules."""
    row = entries[0]
    if not row_is_right(columns, row):
        return 0
    if len(list_breaks(rules, (row,))) > 0:
        return 1
    return None


def judge_war(columns, rules, entries):
    """A war of the rules."""
    if not tree_is_right(rules, empty_case(columns, 1), None, entries[0]):
        return 0
    return None


def judge_tree(columns, rules, entries):
    """A rule, and a tree of it."""
    rule, shown = entries
    if not rule_is_right(columns, rule):
        return 0
    if not tree_is_right(rules, rule_case(columns, rule), rule_goal(columns, rule), shown):
        return 1
    return None


def judge_count(columns, rules, entries):
    """A table, a number, and a count tree."""
    table, number, shown = entries
    if not table_is_right(columns, table):
        return 0
    if not is_integer(number) or not 1 <= number <= MOST_COUNT:
        return 1
    if not count_tree_is_right(list_breaks(rules, table), number, (), shown):
        return 2
    return None


def judge_stuck(columns, rules, entries):
    """A rule, closed cells of it, and a stand that is stuck for them."""
    rule, cells, stand = entries
    if not rule_is_right(columns, rule):
        return 0
    if not cells_are_right(closed_cells(columns, rule_rows(rule)), cells):
        return 1
    if not stand_is_stuck(columns, rules, rule, cells, stand):
        return 2
    return None


def judge_against(columns, rules, entries):
    """A rule, and a table against it."""
    rule, table = entries
    if not rule_is_right(columns, rule):
        return 0
    if not table_is_right(columns, table) or len(table) != rule_rows(rule):
        return 1
    if len(list_breaks(rules, table)) > 0:
        return 2
    if len(broken_rows(rule, table)) == 0:
        return 3
    return None


def judge_cover(columns, rules, entries):
    """A cover of the rules."""
    general = entries[0]
    if not rules_are_right(columns, general):
        return 0
    if not all_follow(columns, general, rules):
        return 1
    if not all_follow(columns, rules, general):
        return 2
    if len(needless_rules(columns, general)) > 0:
        return 3
    if not are_most_general(columns, rules, general):
        return 4
    return None


def judge_start(columns, entries):
    """A master, a row, and settled columns: the first conditions of all that is told of runs."""
    master, row, settled = entries[:3]
    if not table_is_right(columns, master):
        return 0
    if not row_is_right(columns, row):
        return 1
    if not is_column_set(columns, settled):
        return 2
    return None


def judge_run(columns, rules, entries):
    """A run."""
    wrong = judge_start(columns, entries)
    if wrong is not None:
        return wrong
    master, row, settled, steps = entries
    end = steps_end(rules, master, row, settled, steps)
    if end is None:
        return 3
    if len(possible_steps(rules, master, end[0], end[1])) > 0:
        return 4
    return None


def judge_alike(columns, rules, entries):
    """A run like which all runs end, and guards that show it."""
    wrong = judge_start(columns, entries)
    if wrong is not None:
        return wrong
    if judge_run(columns, rules, entries[:4]) is not None:
        return 3
    master, row, settled, steps, guards = entries
    end, done = steps_end(rules, master, row, settled, steps)
    if not are_guards(columns, settled, guards):
        return 4
    for column, guard in guards:
        if not guard_is_right(columns, rules, master, (settled, end, done), column, guard):
            return 5
    return None


def are_guards(columns, settled, value):
    """True if the value has a tuple (column, any value) for each column that is not settled, in their order."""
    if not isinstance(value, tuple):
        return False
    for entry in value:
        if not isinstance(entry, tuple) or len(entry) != 2 or not is_integer(entry[0]):
            return False
    return [entry[0] for entry in value] == [column for column in range(len(columns)) if column not in settled]


def judge_parts(columns, rules, entries):
    """Two runs that part."""
    wrong = judge_start(columns, entries)
    if wrong is not None:
        return wrong
    start, first, second = entries[:3], entries[3], entries[4]
    for steps in (first, second):
        if judge_run(columns, rules, start + (steps,)) is not None:
            return 3
    if not do_part(first, second):
        return 4
    return None


def do_part(first, second):
    """True if the two runs settle one column to two different values."""
    for _, column, value in first:
        for _, other, worth in second:
            if column == other and value != worth:
                return True
    return False


LENGTHS = {
    "row": 4, "war": 4, "tree": 5, "count": 6, "stuck": 6, "against": 5, "cover": 4, "run": 7, "alike": 8, "parts": 8}
JUDGES = {
    "row": judge_row, "war": judge_war, "tree": judge_tree, "count": judge_count, "stuck": judge_stuck,
    "against": judge_against, "cover": judge_cover, "run": judge_run, "alike": judge_alike, "parts": judge_parts}
