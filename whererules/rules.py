"""Rules, and the rows that match them."""

from whererules.columns import check_columns, check_row, is_number, is_value_of
from whererules.errors import InvalidGiven, InvalidRule, InvalidRules

MOST_RULES = 8


def is_rule(columns, value):
    """True if the value is a rule for the columns."""
    check_columns(columns)
    return rule_is_right(columns, value)


def is_rules(columns, value):
    """True if the value is rules for the columns."""
    check_columns(columns)
    return rules_are_right(columns, value)


def matches(columns, rule, row):
    """True if the row matches the rule."""
    check_columns(columns)
    check_rule(columns, rule)
    check_row(columns, row)
    return has_given(rule[0], row)


def is_value_rule(rule):
    """True for a value rule, False for a pair rule."""
    return rule[2] is not None


def has_given(given, row):
    """True if the row matches the given."""
    for column, value in given:
        if value is not None and row[column] != value:
            return False
    return True


def fresh_value(rules):
    """A value that is greater than all values in the rules."""
    greatest = 0
    for given, _, want in rules:
        for value in [want] + [entry[1] for entry in given]:
            if value is not None and value > greatest:
                greatest = value
    return greatest + 1


def entry_is_right(columns, value):
    """True if the value is an entry of a given, blank or not."""
    if not isinstance(value, tuple) or len(value) != 2:
        return False
    if not is_number(value[0], len(columns)):
        return False
    return value[1] is None or is_value_of(columns[value[0]], value[1])


def given_is_right(columns, value):
    """True if the value is a given with entries of any columns."""
    if not isinstance(value, tuple):
        return False
    last = -1
    for entry in value:
        if not entry_is_right(columns, entry) or entry[0] <= last:
            return False
        last = entry[0]
    return True


def rule_is_right(columns, value):
    """What is_rule tells, for columns that are checked."""
    if not isinstance(value, tuple) or len(value) != 3:
        return False
    given, column, want = value
    if not given_is_right(columns, given) or not is_number(column, len(columns)):
        return False
    if column in [entry[0] for entry in given]:
        return False
    if want is None:
        return True
    if None in [entry[1] for entry in given]:
        return False
    return is_value_of(columns[column], want)


def rules_are_right(columns, value):
    """What is_rules tells, for columns that are checked."""
    if not isinstance(value, tuple) or len(value) > MOST_RULES:
        return False
    for rule in value:
        if not rule_is_right(columns, rule):
            return False
    return True


def check_rule(columns, rule):
    """Raises InvalidRule if the argument is no rule."""
    if not rule_is_right(columns, rule):
        raise InvalidRule("this is no rule for the columns")


def check_rules(columns, rules):
    """Raises InvalidRules if the argument is no rules."""
    if not rules_are_right(columns, rules):
        raise InvalidRules("these are no rules for the columns")


def check_given(columns, given):
    """Raises InvalidGiven if the argument is no given."""
    if not given_is_right(columns, given):
        raise InvalidGiven("this is no given for the columns")
