"""What DOC.md says of fixes, runs, guards and sure starts, written once more."""

import oracle


def right_settled(columns, value):
    if type(value) is not tuple or not all(oracle.below(column, len(columns)) for column in value):
        return False
    return list(value) == sorted(set(value))


def values_of_rule(rule, master, row):
    """The set of values to which a rule settles its column, for a row that may match it."""
    given, column, want = rule
    if not oracle.row_matches(given, row):
        return set()
    if want is not None:
        return {want}
    return {other[column] for other in master
            if oracle.row_matches(given, other) and all(other[place] == row[place] for place, _ in given)}


def steps_of(rules, master, row, settled):
    found = []
    for k, rule in enumerate(rules):
        given, column, _ = rule
        if column not in settled and {place for place, _ in given} <= set(settled):
            found += [(k, column, value) for value in values_of_rule(rule, master, row)]
    return sorted(found)


def behind(row, settled, step):
    """The row and the settled columns behind a step."""
    _, column, value = step
    row = list(row)
    row[column] = value
    return tuple(row), tuple(sorted(settled + (column,)))


def end_of(rules, master, row, settled, steps):
    """The row and the settled columns behind the steps, or None if they are not a list of possible ones."""
    if type(steps) is not list:
        return None
    for step in steps:
        if type(step) is not tuple or not all(oracle.integer(one) for one in step):
            return None
        if step not in steps_of(rules, master, row, settled):
            return None
        row, settled = behind(row, settled, step)
    return row, settled


def is_run(rules, master, row, settled, steps):
    end = end_of(rules, master, row, settled, steps)
    return end is not None and not steps_of(rules, master, *end)


def part(first, second):
    return any(step[1] == other[1] and step[2] != other[2] for step in first for other in second)


def all_steps(rules, master, row, settled):
    """All steps of all runs, and all their ends."""
    steps, ends, seen, waiting = set(), set(), set(), [(row, settled)]
    while waiting:
        here = waiting.pop()
        if here not in seen:
            seen.add(here)
            possible = steps_of(rules, master, *here)
            steps |= set(possible)
            waiting += [behind(*here, step) for step in possible]
            if not possible:
                ends.add(here)
    return steps, ends


def some_part(rules, master, row, settled):
    """Whether two runs part."""
    steps, _ = all_steps(rules, master, row, settled)
    return part(steps, steps)


def guard_judged(columns, rules, master, settled, end, column, guard):
    """Whether the value is a guard of the column, for the row and the settled columns at the end of a run."""
    row, done = end
    if not right_settled(columns, guard) or not set(settled) <= set(guard) <= set(done) or column in guard:
        return False
    for rule in rules:
        given, place, _ = rule
        if place in settled or not {entry[0] for entry in given} <= set(guard) or not oracle.row_matches(given, row):
            continue
        values = values_of_rule(rule, master, row)
        fits = place == column and column in done and values == {row[column]}
        if place not in guard and values and not fits:
            return False
    return True


def guards_judged(columns, rules, master, settled, end, value):
    """Whether the value is a tuple with a tuple (column, guard) for each column that is not settled."""
    others = [column for column in range(len(columns)) if column not in settled]
    if type(value) is not tuple or not all(type(entry) is tuple and len(entry) == 2 for entry in value):
        return False
    if not all(oracle.integer(entry[0]) for entry in value) or [entry[0] for entry in value] != others:
        return False
    return all(guard_judged(columns, rules, master, settled, end, *entry) for entry in value)


def is_sure(columns, rules, master, number, settled):
    _, ends = all_steps(rules, master, master[number], settled)
    return all(len(done) == len(columns) for _, done in ends)


def all_least_starts(columns, rules, master, number):
    sure = [some for some in oracle.subsets(tuple(range(len(columns)))) if is_sure(columns, rules, master, number, some)]
    return [some for some in sure if not any(set(other) < set(some) for other in sure)]
