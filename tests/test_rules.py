"""Points 5 and 6: rules, and rows that match them."""

import random
import unittest

from whererules.errors import InvalidColumns, InvalidRow, InvalidRule
from whererules.rules import is_rule, is_rules, matches

import oracle
from samples import BIG, any_values, bends, left_alone, made_columns, made_row, made_rule, made_rules, nested, shared

COLUMNS = (None, (0, 1), None, (2, 5, BIG))
RIGHT_VALUE_RULES = [
    ((), 0, 0), ((), 0, BIG), ((), 1, 1), ((), 3, BIG), (((0, 7),), 1, 0), (((1, 0),), 0, 7), (((0, 0), (2, 0)), 3, 2),
    (((0, BIG), (1, 1), (3, 5)), 2, BIG), (((1, 1), (2, 9), (3, 2)), 0, 0), (((0, 10 ** 50),), 2, 10 ** 50),
]
RIGHT_PAIR_RULES = [
    ((), 0, None), ((), 3, None), (((0, None),), 1, None), (((0, 7),), 1, None), (((0, 7), (1, None)), 2, None),
    (((0, None), (1, 0), (3, None)), 2, None), (((1, None), (2, None), (3, None)), 0, None),
]
WRONG_RULES = [
    # blanks in a value rule
    (((0, None),), 1, 0), (((0, 7), (2, None)), 1, 0),
    # the rule's own column in its given
    (((0, 7),), 0, 7), (((0, None),), 0, None), (((0, 7), (1, 0)), 1, 0), (((0, 7), (1, None)), 1, None),
    # columns of the given not ascending, twice, or not there
    (((1, 0), (0, 7)), 2, 1), (((1, None), (0, None)), 2, None), (((0, 7), (0, 7)), 1, 0), (((0, 7), (0, 8)), 1, 0),
    (((0, None), (0, None)), 1, None), (((4, 0),), 0, 0), (((4, None),), 0, None), (((-1, 0),), 0, 0),
    (((-1, None),), 0, None), (((BIG, 0),), 0, 0), (((0, 7), (4, 0)), 1, 0),
    # a column of the rule that is not there
    ((), 4, 0), ((), 4, None), ((), -1, 0), ((), -1, None), ((), BIG, None),
    # values that a column has not
    (((1, 2),), 0, 0), (((3, 0),), 0, 0), (((0, -1),), 1, 0), (((1, 2),), 0, None), (((0, -1),), 1, None),
    # a want that is no value of the column
    ((), 0, -1), ((), 1, 2), ((), 3, 0), (((0, 7),), 1, -1), ((), 3, BIG + 1),
    # bools
    ((), True, 0), ((), False, 0), ((), 0, True), ((), 1, True), ((), 1, False), (((False, 7),), 1, 0),
    (((True, 1),), 0, 0), (((0, True),), 1, 0), (((1, False),), 0, 0), (((True, None),), 0, None), ((), True, None),
    # lists
    [(), 0, 0], ([], 0, 0), ([(0, 7)], 1, 0), (([0, 7],), 1, 0), (([0, None],), 1, None), ((), [0], 0), ((), 0, [0]),
    (((0, [7]),), 1, 0), ((([0], 7),), 1, 0),
    # other values, and other lengths
    None, True, 0, "", "abc", (), (()), ((), 0), ((), 0, 0, 0), (None, 0, 0), (0, 0, 0), ("", 0, 0), ((), None, 0),
    ((), "0", 0), ((), 0, "0"), ((), 0, ()), ((), (0,), 0), ((None,), 0, 0), ((0,), 1, 0), (((0,),), 1, 0),
    (((0, 7, 7),), 1, 0), (((None, 7),), 1, 0), ((("0", 7),), 1, 0), (((0, "7"),), 1, 0), ((((0,), 7),), 1, 0),
    (((0, (7,)),), 1, 0), ("07", 1, 0), (("07",), 1, 0), (((0, 7), None), 1, 0), ((None, (0, 7)), 1, 0),
]


def odd_things():
    return any_values() + [(nested(20, tuple), 0, 0), ((), nested(20, list), 0), ((), 0, shared(20)),
                           (shared(20), 0, 0), ((nested(18, tuple),), 0, 0), (((0, nested(18, list)),), 1, 0)]


class Rule(unittest.TestCase):
    def test_right(self):
        for rule in RIGHT_VALUE_RULES + RIGHT_PAIR_RULES:
            self.assertIs(is_rule(COLUMNS, rule), True, rule)
        self.assertIs(is_rule((None,), ((), 0, None)), True)
        self.assertIs(is_rule(((3,),), ((), 0, 3)), True)

    def test_wrong(self):
        for rule in WRONG_RULES:
            self.assertIs(is_rule(COLUMNS, rule), False, rule)
        self.assertIs(is_rule((None,), ((), 1, None)), False)
        self.assertIs(is_rule(((3,),), ((), 0, 2)), False)

    def test_any_value(self):
        for columns in (COLUMNS, (None,), ((0, 1),)):
            for value in odd_things():
                self.assertIs(is_rule(columns, value), oracle.right_rule(columns, value))

    def test_bent(self):
        made = [(made_columns(seed), seed) for seed in range(30)]
        rules = [(columns, made_rule(random.Random(seed), columns)) for columns, seed in made]
        for columns, rule in rules + [(COLUMNS, rule) for rule in RIGHT_VALUE_RULES + RIGHT_PAIR_RULES]:
            self.assertIs(is_rule(columns, rule), True, rule)
            for value in bends(rule):
                self.assertIs(is_rule(columns, value), oracle.right_rule(columns, value), value)


class Rules(unittest.TestCase):
    def test_right(self):
        for many in range(9):
            self.assertIs(is_rules(COLUMNS, (((), 0, 0),) * many), True, many)
        self.assertIs(is_rules(COLUMNS, tuple(RIGHT_VALUE_RULES[:8])), True)
        self.assertIs(is_rules(COLUMNS, tuple(RIGHT_PAIR_RULES)), True)
        self.assertIs(is_rules(COLUMNS, (RIGHT_PAIR_RULES[3], RIGHT_VALUE_RULES[6])), True)

    def test_wrong(self):
        self.assertIs(is_rules(COLUMNS, (((), 0, 0),) * 9), False)
        for rule in WRONG_RULES:
            self.assertIs(is_rules(COLUMNS, (rule,)), False, rule)
            self.assertIs(is_rules(COLUMNS, (((), 0, 0), rule)), False, rule)
            self.assertIs(is_rules(COLUMNS, (rule, ((), 0, 0))), False, rule)
        for rules in [[], [((), 0, 0)], ((), 0, 0), None, True, False, 0, "", "ab", (None,)]:
            self.assertIs(is_rules(COLUMNS, rules), False, rules)

    def test_any_value(self):
        for value in odd_things():
            self.assertIs(is_rules(COLUMNS, value), oracle.right_rules(COLUMNS, value))
            self.assertIs(is_rules(COLUMNS, (value,)), oracle.right_rules(COLUMNS, (value,)))

    def test_bent(self):
        for seed in range(12):
            columns = made_columns(seed)
            rules = made_rules(random.Random(seed), columns, 3)
            self.assertIs(is_rules(columns, rules), True)
            for value in bends(rules):
                self.assertIs(is_rules(columns, value), oracle.right_rules(columns, value), value)


class WrongColumns(unittest.TestCase):
    def test_columns_are_looked_at_first(self):
        for function in (is_rule, is_rules):
            for columns in [value for value in odd_things() if not oracle.right_columns(value)]:
                for value in (((), 0, 0), (), (((), 0, 0),), None, [], True):
                    self.assertRaises(InvalidColumns, function, columns, value)


class Matches(unittest.TestCase):
    def told(self, given, row, want=0):
        return matches((None, None, None), (given, 2, want), row)

    def test_value_rules(self):
        self.assertIs(self.told((), (1, 2, 3)), True)
        self.assertIs(self.told(((0, 1),), (1, 2, 3)), True)
        self.assertIs(self.told(((0, 2),), (1, 2, 3)), False)
        self.assertIs(self.told(((1, 2),), (1, 2, 3)), True)
        self.assertIs(self.told(((1, 1),), (1, 2, 3)), False)
        self.assertIs(self.told(((0, 1), (1, 2)), (1, 2, 3)), True)
        self.assertIs(self.told(((0, 1), (1, 3)), (1, 2, 3)), False)
        self.assertIs(self.told(((0, 0), (1, 2)), (1, 2, 3)), False)

    def test_the_want_does_not_matter(self):
        for want in (0, 3, 4):
            self.assertIs(self.told(((0, 1),), (1, 2, 3), want), True)
            self.assertIs(self.told(((0, 0),), (1, 2, 3), want), False)

    def test_pair_rules(self):
        self.assertIs(self.told((), (1, 2, 3), None), True)
        self.assertIs(self.told(((0, None),), (1, 2, 3), None), True)
        self.assertIs(self.told(((0, None), (1, None)), (0, 0, 0), None), True)
        self.assertIs(self.told(((0, None), (1, 2)), (1, 2, 3), None), True)
        self.assertIs(self.told(((0, None), (1, 0)), (1, 2, 3), None), False)
        self.assertIs(self.told(((0, 0), (1, None)), (1, 2, 3), None), False)
        self.assertIs(self.told(((0, 1), (1, None)), (1, 2, 3), None), True)
        self.assertIs(self.told(((0, 0),), (0, 2, 3), None), True)

    def test_closed_columns_and_great_values(self):
        self.assertIs(matches(COLUMNS, (((1, 1), (3, BIG)), 0, None), (0, 1, 0, BIG)), True)
        self.assertIs(matches(COLUMNS, (((1, 1), (3, BIG)), 0, None), (0, 1, 0, 5)), False)

    def test_against_the_oracle(self):
        told = []
        for seed in range(400):
            dice = random.Random(seed)
            columns = made_columns(seed)
            rule, row = made_rule(dice, columns), made_row(dice, columns)
            told.append(matches(columns, rule, row))
            self.assertIs(told[-1], oracle.row_matches(rule[0], row))
        self.assertEqual({True, False}, set(told))

    def test_wrong_arguments(self):
        right = [COLUMNS, (((0, None), (1, 0)), 2, None), (7, 0, 7, 2)]
        wrong = [
            [None, (), (None,) * 5, [None, None], ((1, 0),), (True,), 4],
            WRONG_RULES,
            [(7, 0, 7, 3), (7, 0, 7), [7, 0, 7, 2], (7, True, 7, 2), (-1, 0, 7, 2), None, ()],
        ]
        errors = [InvalidColumns, InvalidRule, InvalidRow]
        self.assertIs(matches(*right), True)
        for first in range(3):
            for bad in wrong[first]:
                for rest in range(4):
                    arguments = list(right)
                    arguments[first] = bad
                    for place in range(first + 1, 3):
                        if rest & (1 << (place - 1)):
                            arguments[place] = wrong[place][0]
                    self.assertRaises(errors[first], matches, *arguments)


class Unchanged(unittest.TestCase):
    def test_no_argument_is_changed(self):
        for value in [[(), 0, 0], ([], 0, 0), ([(0, 7)], 1, 0), (([0, 7],), 1, 0), [[(), 0, 0]], ((), 0, [0])]:
            self.assertTrue(left_alone(is_rule, [COLUMNS, value])[1])
            self.assertTrue(left_alone(is_rules, [COLUMNS, value])[1])
            self.assertTrue(left_alone(is_rules, [COLUMNS, (value,)])[1])
            self.assertTrue(left_alone(matches, [COLUMNS, value, [7, 0, 7, 2]])[1])
        self.assertTrue(left_alone(matches, [[None, [0, 1]], ((), 0, 0), [7, 0, 7, 2]])[1])
        self.assertTrue(left_alone(matches, [COLUMNS, ((), 0, 0), [7, 0, 7, 2]])[1])


if __name__ == "__main__":
    unittest.main()
