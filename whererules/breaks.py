"""Breaks of rules in a table, and how many rows must go so that the rules hold."""

from itertools import combinations

from whererules.columns import check_columns, check_table, is_integer
from whererules.errors import InvalidNumber
from whererules.rules import check_rule, check_rules, has_given, is_value_rule

MOST_COUNT = 8


def breaks(columns, rules, table):
    """The ascending list of the breaks of all rules in the table."""
    check_columns(columns)
    check_rules(columns, rules)
    check_table(columns, table)
    return list_breaks(rules, table)


def holds(columns, rule, table):
    """True if the rule holds in the table."""
    check_columns(columns)
    check_rule(columns, rule)
    check_table(columns, table)
    return len(broken_rows(rule, table)) == 0


def fewest_out(columns, rules, table):
    """An ascending tuple of as few rows as can be without which the rules hold."""
    return fewest_rows(breaks(columns, rules, table), len(table))


def count_tree(columns, rules, table):
    """A count tree of the count of fewest_out, or None if that is 0."""
    found = breaks(columns, rules, table)
    count = len(fewest_rows(found, len(table)))
    if count == 0:
        return None
    return grown_tree(found, count, ())


def is_count_tree(columns, rules, table, number, value):
    """True if the value is a count tree of the number where no row is left out."""
    found = breaks(columns, rules, table)
    check_count(number)
    return count_tree_is_right(found, number, (), value)


def check_count(number):
    """Raises InvalidNumber if the argument is no integer from 1 to 8."""
    if not is_integer(number) or not 1 <= number <= MOST_COUNT:
        raise InvalidNumber("this is no integer from 1 to 8")


def list_breaks(rules, table):
    """What breaks returns, for arguments that are checked."""
    found = []
    for k in range(len(rules)):
        for rows in broken_rows(rules[k], table):
            found.append((k,) + rows)
    return found


def broken_rows(rule, table):
    """The ascending list of the tuples (i,) or (i, j) of rows that are a break of the rule."""
    if is_value_rule(rule):
        return broken_singles(rule, table)
    return broken_pairs(rule, table)


def broken_singles(rule, table):
    """The rows that break a value rule."""
    given, column, want = rule
    found = []
    for i in range(len(table)):
        if has_given(given, table[i]) and table[i][column] != want:
            found.append((i,))
    return found


def broken_pairs(rule, table):
    """The pairs of rows that break a pair rule."""
    given, column, _ = rule
    found = []
    for i in range(len(table)):
        for j in range(i + 1, len(table)):
            if are_alike(given, table[i], table[j]) and table[i][column] != table[j][column]:
                found.append((i, j))
    return found


def are_alike(given, one, other):
    """True if two rows match the given and are equal in all of its columns."""
    if not has_given(given, one):
        return False
    for column, _ in given:
        if one[column] != other[column]:
            return False
    return True


def breaks_left(found, out):
    """Those of the found breaks of which no row is left out."""
    left = []
    for told in found:
        if not any([row in out for row in told[1:]]):
            left.append(told)
    return left


def fewest_rows(found, many):
    """As few of so many rows as can be that leave none of the found breaks."""
    for size in range(many):
        for out in combinations(range(many), size):
            if len(breaks_left(found, out)) == 0:
                return out
    return tuple(range(many))


def grown_tree(found, number, out):
    """A count tree of the number where some rows are left out."""
    # Any break will do: if no fewer than number rows are enough, then with one
    # row more left out no fewer than number - 1 of the others are.
    told = breaks_left(found, out)[0]
    trees = []
    if number > 1:
        for row in told[1:]:
            trees.append(grown_tree(found, number - 1, out + (row,)))
    return (told, tuple(trees))


def count_tree_is_right(found, number, out, value):
    """True if the value is a count tree of the number where some rows are left out."""
    if not isinstance(value, tuple) or len(value) != 2:
        return False
    told, trees = value
    if not is_break_left(found, out, told) or not isinstance(trees, tuple):
        return False
    if number == 1:
        return len(trees) == 0
    if len(trees) != len(told) - 1:
        return False
    for row, tree in zip(told[1:], trees):
        if not count_tree_is_right(found, number - 1, out + (row,), tree):
            return False
    return True


def is_break_left(found, out, value):
    """True if the value is one of the found breaks, and no row of it is left out."""
    if not isinstance(value, tuple):
        return False
    # True and False are equal to 1 and 0, but they are no numbers of rules and rows.
    if not all([is_integer(number) for number in value]):
        return False
    return value in breaks_left(found, out)
