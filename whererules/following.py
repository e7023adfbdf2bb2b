"""What follows from rules, with a tree, or with a table that shows the contrary."""

from whererules.cases import closed_cells, filled_rows
from whererules.columns import check_columns
from whererules.rules import check_rule, check_rules, fresh_value
from whererules.trees import prove, rule_case, rule_goal, rule_rows, tree_is_right


def follows(columns, rules, rule):
    """True if the rule follows from the rules."""
    check_question(columns, rules, rule)
    return prove_rule(columns, rules, rule)[1] is None


def tree(columns, rules, rule):
    """A tree of the rule, or None."""
    check_question(columns, rules, rule)
    return prove_rule(columns, rules, rule)[0]


def against(columns, rules, rule):
    """A table against the rule, or None."""
    check_question(columns, rules, rule)
    _, left = prove_rule(columns, rules, rule)
    if left is None:
        return None
    return filled_rows(left, fresh_value(rules + (rule,)))


def is_tree(columns, rules, rule, value):
    """True if the value is a tree of the rule."""
    check_question(columns, rules, rule)
    return tree_is_right(rules, rule_case(columns, rule), rule_goal(columns, rule), value)


def check_question(columns, rules, rule):
    """Raises the error of the first of the arguments that is wrong, if one is."""
    check_columns(columns)
    check_rules(columns, rules)
    check_rule(columns, rule)


def prove_rule(columns, rules, rule):
    """A tree of the rule and None, or None and a case in which the rule is broken."""
    cells = closed_cells(columns, rule_rows(rule))
    return prove(rules, rule_case(columns, rule), rule_goal(columns, rule), cells)
