"""Trees that are right in a case: how they are found, and how they are judged.

A goal is None where there is none, ("value", cell, value) or ("equal", cell, other cell).

In the tree of a case of one row or two a join has no rows; in the tree of a draft it names them.
"""

from whererules.cases import are_equal, cell_at, given_case, split_cases, with_equal, with_value
from whererules.columns import is_number
from whererules.rules import is_value_rule

# The lengths of the two kinds of joins.
JOIN = 3
NAMED_JOIN = 5


def rule_rows(rule):
    """How many rows the case of a rule has."""
    return 1 if is_value_rule(rule) else 2


def rule_case(columns, rule):
    """The case of a rule."""
    return given_case(columns, rule[0], rule_rows(rule))


def rule_goal(columns, rule):
    """The goal of a rule, for its case."""
    if is_value_rule(rule):
        return ("value", rule[1], rule[2])
    return ("equal", rule[1], len(columns) + rule[1])


def is_goal_known(case, goal):
    """True if the goal is known in the case."""
    if goal is None:
        return False
    kind, cell, worth = goal
    if kind == "value":
        return case.known[cell] == worth
    return are_equal(case, cell, worth)


def can_step(rule, case, row):
    """True if a step with this rule is possible for the row."""
    if not is_value_rule(rule):
        return False
    for column, value in rule[0]:
        if case.known[cell_at(case, row, column)] != value:
            return False
    return True


def can_join(rule, case, one, other):
    """True if a join of the two rows with this rule is possible."""
    if is_value_rule(rule):
        return False
    for column, value in rule[0]:
        first, second = cell_at(case, one, column), cell_at(case, other, column)
        if not are_equal(case, first, second):
            return False
        if value is not None and case.known[first] != value:
            return False
    return True


def is_news_of_step(rule, case, row):
    """True if a step makes something known that was not known before."""
    return can_step(rule, case, row) and case.known[cell_at(case, row, rule[1])] != rule[2]


def is_news_of_join(rule, case, one, other):
    """True if a join makes something known that was not known before."""
    if not can_join(rule, case, one, other):
        return False
    return not are_equal(case, cell_at(case, one, rule[1]), cell_at(case, other, rule[1]))


def next_move(rules, case):
    """The head of a step or a join that makes something known, or None."""
    for k in range(len(rules)):
        for row in range(case.rows):
            if is_news_of_step(rules[k], case, row):
                return ("step", k, row)
        if case.rows == 2 and is_news_of_join(rules[k], case, 0, 1):
            return ("join", k)
    return None


def after_move(rules, case, move):
    """The case behind a step or a join, told by its head or by its whole tree."""
    _, column, want = rules[move[1]]
    if move[0] == "step":
        return with_value(case, cell_at(case, move[2], column), want)
    one, other = rows_of_join(move)
    return with_equal(case, cell_at(case, one, column), cell_at(case, other, column))


def rows_of_join(tree):
    """The two rows of a join, told by its whole tree, or by its head where it has no rows."""
    if len(tree) == NAMED_JOIN:
        return tree[2:4]
    return 0, 1


def prove(rules, case, goal, cells):
    """A tree that is right in the case and splits none but the cells, and None.

    If there is none: None, and a case in which all that was known is known, with values
    for all cells, no clash, no goal and no move that makes anything known.
    """
    if case.clash:
        return ("clash",), None
    if is_goal_known(case, goal):
        return ("goal",), None
    move = next_move(rules, case)
    if move is not None:
        tree, left = prove(rules, after_move(rules, case, move), goal, cells)
        if tree is None:
            return None, left
        return move + (tree,), None
    for row, column in cells:
        if case.known[cell_at(case, row, column)] is None:
            return prove_split(rules, case, goal, cells, (row, column))
    return None, case


def prove_split(rules, case, goal, cells, cell):
    """What prove returns, with a split of this cell as its first thing."""
    row, column = cell
    trees = []
    for part in split_cases(case, row, column):
        tree, left = prove(rules, part, goal, cells)
        if tree is None:
            return None, left
        trees.append(tree)
    return ("split", row, column, tuple(trees)), None


def tree_is_right(rules, case, goal, value, join=JOIN):
    """True if the value is a tree with joins of this kind that is right in the case."""
    # A list of what is still to be judged, as values may be deeper than calls should be.
    waiting = [(case, value)]
    while len(waiting) > 0:
        here, told = waiting.pop()
        below = judge_head(rules, here, goal, told, join)
        if below is None:
            return False
        waiting.extend(below)
    return True


def judge_head(rules, case, goal, value, join):
    """A list of tuples (case, tree) all of which must be right for the value to be right.

    None if the value is wrong whatever stands below its head.
    """
    if case.clash:
        return [] if value == ("clash",) else None
    if value == ("goal",):
        return [] if is_goal_known(case, goal) else None
    if not isinstance(value, tuple):
        return None
    if is_step(rules, case, value) or is_join(rules, case, value, join):
        return [(after_move(rules, case, value), value[-1])]
    if is_split(case, value):
        return list(zip(split_cases(case, value[1], value[2]), value[3]))
    return None


def is_step(rules, case, value):
    """True if the tuple has the head of a step that is possible in the case."""
    if len(value) != 4 or value[0] != "step":
        return False
    if not is_number(value[1], len(rules)) or not is_number(value[2], case.rows):
        return False
    return can_step(rules[value[1]], case, value[2])


def is_join(rules, case, value, join):
    """True if the tuple has the head of a join of this kind that is possible in the case."""
    if len(value) != join or value[0] != "join" or not is_number(value[1], len(rules)):
        return False
    one, other = rows_of_join(value)
    if not is_number(one, case.rows) or not is_number(other, case.rows) or not one < other:
        return False
    return can_join(rules[value[1]], case, one, other)


def is_split(case, value):
    """True if the tuple is a split of a closed cell with a tree for each value."""
    if len(value) != 4 or value[0] != "split":
        return False
    if not is_number(value[1], case.rows) or not is_number(value[2], len(case.columns)):
        return False
    column = case.columns[value[2]]
    if column is None or not isinstance(value[3], tuple):
        return False
    return len(value[3]) == len(column)
