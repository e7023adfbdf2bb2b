"""Which rules say more than others, which can be spared, and covers."""

from whererules.columns import check_columns
from whererules.errors import InvalidValue, NotAtPeace
from whererules.following import prove_rule
from whererules.peace import peace_or_war
from whererules.rules import check_rule, check_rules, is_value_rule, rule_is_right, rules_are_right


def more_general(columns, rule, value):
    """True if the rule is more general than the other one, the value."""
    check_columns(columns)
    check_rule(columns, rule)
    if not rule_is_right(columns, value):
        raise InvalidValue("this is no rule for the columns")
    return says_more(rule, value)


def needless(columns, rules):
    """The ascending list of the numbers of the rules that follow from the other ones, each asked by itself."""
    check_columns(columns)
    check_rules(columns, rules)
    return needless_rules(columns, rules)


def cover(columns, rules):
    """A cover of the rules."""
    check_peace(columns, rules)
    general = tuple([most_general(columns, rules, rule) for rule in rules])
    left = needless_rules(columns, general)
    while len(left) > 0:
        # One at a time, as two rules may each follow from the other.
        general = without_rule(general, left[-1])
        left = needless_rules(columns, general)
    return general


def is_cover(columns, rules, value):
    """True if the value is a cover of the rules."""
    check_peace(columns, rules)
    if not rules_are_right(columns, value):
        return False
    if not all_follow(columns, value, rules) or not all_follow(columns, rules, value):
        return False
    return len(needless_rules(columns, value)) == 0 and are_most_general(columns, rules, value)


def check_peace(columns, rules):
    """Raises the error of a wrong argument, and NotAtPeace if no row keeps the rules."""
    _, left = peace_or_war(columns, rules)
    if left is None:
        raise NotAtPeace("no row keeps the rules")


def says_more(rule, other):
    """What more_general tells, for arguments that are checked."""
    if rule[1:] != other[1:] or rule[0] == other[0]:
        return False
    columns = [entry[0] for entry in other[0]]
    for entry in rule[0]:
        if entry not in other[0] and (entry[1] is not None or entry[0] not in columns):
            return False
    return True


def next_general(rule):
    """The rules that are more general than the rule by as little as can be.

    Each rule that is more general is one of these, or is more general than one of these.
    """
    given, column, want = rule
    found = []
    for k in range(len(given)):
        other, value = given[k]
        kept = ()
        if value is not None and not is_value_rule(rule):
            kept = ((other, None),)
        found.append((given[:k] + kept + given[k + 1:], column, want))
    return found


def is_following(columns, rules, rule):
    """True if the rule follows from the rules."""
    return prove_rule(columns, rules, rule)[1] is None


def all_follow(columns, rules, others):
    """True if each of the others follows from the rules."""
    for rule in others:
        if not is_following(columns, rules, rule):
            return False
    return True


def without_rule(rules, k):
    """All rules but the one with this number."""
    return rules[:k] + rules[k + 1:]


def needless_rules(columns, rules):
    """What needless returns, for arguments that are checked."""
    found = []
    for k in range(len(rules)):
        if is_following(columns, without_rule(rules, k), rules[k]):
            found.append(k)
    return found


def following_general(columns, rules, rule):
    """One of next_general of the rule that follows from the rules, or None."""
    for general in next_general(rule):
        if is_following(columns, rules, general):
            return general
    return None


def most_general(columns, rules, rule):
    """The rule, or one that is more general and follows, such that no more general one follows."""
    general = following_general(columns, rules, rule)
    while general is not None:
        rule = general
        general = following_general(columns, rules, rule)
    return rule


def are_most_general(columns, rules, others):
    """True if no rule that is more general than one of the others follows from the rules."""
    for rule in others:
        if following_general(columns, rules, rule) is not None:
            return False
    return True
