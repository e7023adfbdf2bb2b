"""Fixes of a row by rules and a master: steps, runs, runs that part, and guards."""

from whererules.breaks import are_alike
from whererules.columns import check_columns, check_row, check_table, is_integer, with_item
from whererules.errors import InvalidSettled
from whererules.rules import check_rules, has_given, is_value_rule
from whererules.splits import is_column_set


def next_steps(columns, rules, master, row, settled):
    """The ascending list of the steps that are possible."""
    check_fix(columns, rules, master, row, settled)
    return possible_steps(rules, master, row, settled)


def run(columns, rules, master, row, settled):
    """A run, a list of steps."""
    check_fix(columns, rules, master, row, settled)
    return finish(rules, master, row, settled)[0]


def fix(columns, rules, master, row, settled):
    """("fixed", row, settled, guards) with the end of all runs, or ("parts", first, second) with two that part."""
    check_fix(columns, rules, master, row, settled)
    steps, end, done = finish(rules, master, row, settled)
    guards = []
    for column in range(len(columns)):
        if column not in settled:
            guard, other = guard_or_steps(rules, master, end, settled, column)
            if guard is None:
                return ("parts", steps, finished(rules, master, row, settled, other))
            guards.append((column, guard))
    return ("fixed", end, done, tuple(guards))


def check_fix(columns, rules, master, row, settled):
    """Raises the error of the first of the arguments that is wrong, if one is."""
    check_columns(columns)
    check_rules(columns, rules)
    check_table(columns, master)
    check_row(columns, row)
    check_settled(columns, settled)


def check_settled(columns, settled):
    """Raises InvalidSettled if the argument is no set of settled columns."""
    if not is_column_set(columns, settled):
        raise InvalidSettled("this is no ascending tuple of different columns")


def has_all_of(settled, given):
    """True if all columns of the given are settled."""
    for column, _ in given:
        if column not in settled:
            return False
    return True


def settling_values(rule, master, row):
    """The ascending list of the values to which the rule settles its column, for the row."""
    given, column, want = rule
    if is_value_rule(rule):
        return [want] if has_given(given, row) else []
    values = {}
    for other in master:
        if are_alike(given, row, other):
            values[other[column]] = True
    return sorted(values)


def possible_steps(rules, master, row, settled):
    """What next_steps returns, for arguments that are checked."""
    steps = []
    for k in range(len(rules)):
        given, column, _ = rules[k]
        if column not in settled and has_all_of(settled, given):
            for value in settling_values(rules[k], master, row):
                steps.append((k, column, value))
    return steps


def after_step(row, settled, step):
    """The row and the settled columns behind a step."""
    _, column, value = step
    return with_item(row, column, value), tuple(sorted(settled + (column,)))


def finish(rules, master, row, settled):
    """The steps of a run from here, and the row and the settled columns at its end."""
    steps = []
    possible = possible_steps(rules, master, row, settled)
    while len(possible) > 0:
        steps.append(possible[0])
        row, settled = after_step(row, settled, possible[0])
        possible = possible_steps(rules, master, row, settled)
    return steps, row, settled


def finished(rules, master, row, settled, steps):
    """A run that begins with these steps."""
    for step in steps:
        row, settled = after_step(row, settled, step)
    return steps + finish(rules, master, row, settled)[0]


def guard_or_steps(rules, master, end, settled, column):
    """A guard of the column, for the row at the end of a run, and None.

    If there is none: None, and steps that are possible one behind the other from the start,
    of which the last one settles a column to another value than the run.
    """
    guard, steps = settled, []
    # All columns that must be in any guard are put into it, and no other ones.
    following = possible_steps(rules, master, end, guard)
    while len(following) > 0:
        for step in following:
            if step[2] != end[step[1]]:
                return None, steps + [step]
        others = [step for step in following if step[1] != column]
        if len(others) == 0:
            break
        steps.append(others[0])
        guard = after_step(end, guard, others[0])[1]
        following = possible_steps(rules, master, end, guard)
    return guard, None


def steps_end(rules, master, row, settled, value):
    """The row and the settled columns behind a list of steps, each possible behind the ones before it.

    None if the value is no such list.
    """
    if not isinstance(value, list):
        return None
    for step in value:
        if not is_possible(rules, master, row, settled, step):
            return None
        row, settled = after_step(row, settled, step)
    return row, settled


def is_possible(rules, master, row, settled, value):
    """True if the value is a step that is possible."""
    if not isinstance(value, tuple):
        return False
    # True and False are equal to 1 and 0, but they are no integers.
    if not all([is_integer(number) for number in value]):
        return False
    return value in possible_steps(rules, master, row, settled)


def guard_is_right(columns, rules, master, ends, column, value):
    """True if the value is a guard of the column; ends are the settled columns at the start, and the row
    and the settled columns at the end of a run."""
    settled, end, done = ends
    if not is_column_set(columns, value) or column in value:
        return False
    if not all([one in done for one in value]) or not all([one in value for one in settled]):
        return False
    for step in possible_steps(rules, master, end, value):
        if step[1] != column or column not in done or step[2] != end[column]:
            return False
    return True
