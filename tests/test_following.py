"""Points 3 and 11: what follows, trees of a rule, and tables against it."""

import random
import unittest

from whererules.following import against, follows, is_tree, tree

import oracle
from samples import BIG, any_values, bends, made_columns, made_rule, made_rules, nested, shared
from wild import wild_tree

COLUMNS = (None, None, (0, 1))
RULES = ((((0, 44),), 2, 1), (((1, None), (2, 1)), 0, None))
THREE = (None, None, None)
CHAIN = ((((0, None),), 1, None), (((1, None),), 2, None))

# Columns, rules, a rule, and whether it follows.
ASKED = [
    (COLUMNS, RULES, (((0, 44), (1, None)), 2, None), True),
    # the rules themselves, with entries more and less
    (COLUMNS, RULES, RULES[0], True), (COLUMNS, RULES, RULES[1], True),
    (COLUMNS, RULES, (((0, 44), (1, 3)), 2, 1), True), (COLUMNS, RULES, ((), 2, 1), False),
    (COLUMNS, RULES, (((1, 5), (2, 1)), 0, None), True), (COLUMNS, RULES, (((1, None),), 0, None), False),
    (COLUMNS, RULES, (((2, 1),), 0, None), False), (COLUMNS, RULES, (((1, None), (2, None)), 0, None), False),
    (COLUMNS, RULES, (((1, None), (2, 0)), 0, None), False), (COLUMNS, RULES, (((0, 44),), 2, 0), False),
    (COLUMNS, RULES, (((0, 45),), 2, 1), False), (COLUMNS, RULES, (((0, 44),), 2, None), True),
    # over other rules
    (THREE, CHAIN, (((0, None),), 2, None), True), (THREE, CHAIN, (((0, 7),), 2, None), True),
    (THREE, CHAIN, (((2, None),), 0, None), False), (THREE, CHAIN, (((0, 7),), 2, 7), False),
    (THREE, ((((0, 1),), 1, 2), (((1, 2),), 2, 3)), (((0, 1),), 2, 3), True),
    (THREE, ((((0, 1),), 1, 2), (((1, 2),), 2, 3)), (((0, 1),), 2, None), True),
    (THREE, ((((0, 1),), 1, 2), (((1, 2),), 2, 3)), (((0, 1),), 2, 4), False),
    (THREE, ((((0, 1),), 1, 2), (((1, 2),), 2, 3)), (((0, None),), 2, None), False),
    # a join that has its blank entry because both cells have the same value
    (THREE, (((), 0, 5), (((0, None),), 1, None)), ((), 1, None), True),
    (THREE, (((), 0, 5), (((0, 5),), 1, None)), ((), 1, None), True),
    (THREE, (((), 0, 5), (((0, 6),), 1, None)), ((), 1, None), False),
    # a value that goes over an equality
    (THREE, (((), 0, None), (((0, 5),), 1, 6)), (((2, 1),), 1, None), False),
    # splits
    (((0, 1), None), ((((0, 0),), 1, 5), (((0, 1),), 1, 5)), ((), 1, 5), True),
    (((0, 1, 2), None), ((((0, 0),), 1, 5), (((0, 1),), 1, 5)), ((), 1, 5), False),
    (((0, 1), None), ((((0, 0),), 1, 5), (((0, 1),), 1, 5)), ((), 1, None), True),
    (((0, 1), None), ((((0, 0),), 1, None), (((0, 1),), 1, None)), (((0, None),), 1, None), True),
    (((0, 1), None), ((((0, 0),), 1, None), (((0, 1),), 1, None)), ((), 1, None), False),
    # a column of one value
    (((3,), None), (), ((), 0, 3), True), (((3,), None), (), ((), 0, None), True),
    (((3,), None), (), (((1, 4),), 0, None), True), ((None,), (), ((), 0, None), False),
    (((3,), None), ((((0, None),), 1, None),), ((), 1, None), True),
    (((3,), None), ((((0, 3),), 1, 8),), ((), 1, 8), True),
    # no rules
    (THREE, (), ((), 0, 0), False), (THREE, (), (((1, None), (2, None)), 0, None), False),
    # rules at war: all follow
    ((None,), (((), 0, 0), ((), 0, 1)), ((), 0, 2), True), ((None,), (((), 0, 0), ((), 0, 1)), ((), 0, None), True),
    (((0, 1), None), ((((0, 0),), 1, 5), (((0, 1),), 1, 5), ((), 1, 6)), (((1, 9),), 0, 1), True),
    # a given that no row can have
    (THREE, ((((0, 1),), 1, 2), (((0, 1),), 1, 3)), (((0, 1),), 2, 9), True),
    (THREE, ((((0, 1),), 1, 2),), (((0, 1), (1, 3)), 2, 9), True),
    (THREE, ((((0, 1),), 1, 2),), (((0, 1), (1, 3)), 2, None), True),
    # values that rules do not name; great ones
    (THREE, ((((0, BIG),), 1, BIG + 1),), (((0, BIG),), 1, BIG + 1), True),
    (THREE, ((((0, BIG),), 1, BIG + 1),), (((0, BIG + 2),), 1, BIG + 1), False),
    (THREE, (), ((), 0, 1), False), (THREE, (), ((), 0, 2), False), (THREE, (((), 1, 0),), ((), 0, 1), False),
]


def made(seed):
    """Columns, rules and a rule."""
    dice = random.Random(seed)
    columns = made_columns(seed, 3)
    return columns, made_rules(dice, columns, 6), made_rule(dice, columns)


class TreeOrAgainst(unittest.TestCase):
    def judge(self, columns, rules, rule):
        """Whether the rule follows; asserts that what is returned shows it."""
        shown, table = tree(columns, rules, rule), against(columns, rules, rule)
        told = follows(columns, rules, rule)
        self.assertIs(told, shown is not None)
        self.assertIs(told, table is None)
        if told:
            self.assertTrue(oracle.rule_tree_judged(columns, rules, rule, shown), shown)
            self.assertIs(is_tree(columns, rules, rule, shown), True)
        else:
            self.assertTrue(oracle.right_table(columns, table))
            self.assertEqual(len(table), 1 if rule[2] is not None else 2)
            self.assertTrue(oracle.all_hold(rules, table), table)
            self.assertFalse(oracle.rule_holds(rule, table), table)
        return told

    def test_by_hand(self):
        for columns, rules, rule, right in ASKED:
            self.assertIs(self.judge(columns, rules, rule), right, (columns, rules, rule))

    def test_against_all_tables(self):
        told = {}
        for seed in range(500):
            columns, rules, rule = made(seed)
            right = oracle.rule_follows(columns, rules, rule)
            self.assertIs(self.judge(columns, rules, rule), right, (columns, rules, rule))
            told[(right, rule[2] is None)] = told.get((right, rule[2] is None), 0) + 1
        self.assertTrue(all(told.get((right, pair), 0) > 40 for right in (True, False) for pair in (True, False)))

    def test_each_rule_follows_from_the_rules(self):
        for seed in range(100):
            columns, rules, _ = made(seed)
            for rule in rules:
                self.assertTrue(self.judge(columns, rules, rule))
                given, column, want = rule
                for other in range(len(columns)):
                    if other != column and other not in [place for place, _ in given]:
                        value = 0 if columns[other] is None else columns[other][0]
                        longer = tuple(sorted(given + ((other, value),)))
                        self.assertTrue(self.judge(columns, rules, (longer, column, want)))

    def test_four_columns_and_eight_rules(self):
        columns = ((0, 1, 2), (0, 1, 2), None, None)
        rules = tuple([(((0, k // 3), (1, k % 3)), 2, k % 2) for k in range(8)])
        for rule in [((), 2, None), (((0, None),), 2, None), (((0, 0),), 2, None), (((0, 1), (1, 0)), 2, 1),
                     (((1, 1),), 2, 1), (((0, None), (1, None)), 2, None)]:
            self.judge(columns, rules, rule)
        chain = (((), 0, None), (((0, None),), 1, None), (((1, None),), 2, None), (((2, None),), 3, None))
        self.assertTrue(self.judge((None,) * 4, chain, ((), 3, None)))
        self.assertFalse(self.judge((None,) * 4, chain[1:], ((), 3, None)))


class IsTree(unittest.TestCase):
    RULE = (((0, 44), (1, None)), 2, None)

    def told(self, columns, rules, rule, value):
        told = is_tree(columns, rules, rule, value)
        self.assertIs(told, oracle.rule_tree_judged(columns, rules, rule, value), value)
        return told

    def test_right(self):
        goal = ("goal",)
        for value in [("step", 0, 0, ("step", 0, 1, goal)), ("step", 0, 1, ("step", 0, 0, goal)),
                      ("step", 0, 0, ("step", 0, 0, ("step", 0, 1, goal))),
                      ("step", 0, 0, ("step", 0, 1, ("join", 1, goal))),
                      ("step", 0, 0, ("split", 0, 2, (("clash",), ("step", 0, 1, goal)))),
                      ("step", 0, 0, ("split", 1, 2, (("step", 0, 1, ("clash",)), goal)))]:
            self.assertTrue(self.told(COLUMNS, RULES, self.RULE, value), value)

    def test_wrong(self):
        goal, clash = ("goal",), ("clash",)
        second = ("step", 0, 1, goal)
        for value in [
                goal, clash, ("step", 0, 0, goal), second, ("join", 1, goal), ("step", 0, 0, ("join", 1, second)),
                ("step", 0, 0, ("step", 0, 1, clash)), ("step", 1, 0, second), ("join", 0, ("step", 0, 0, second)),
                ("step", False, 0, second), ("step", 0, False, second), ("step", 0, 0, ("step", 0, True, goal)),
                ("step", 0, 0, ("step", 0, 1, ("join", True, goal))), ("step", 0, 2, second), ("step", 0, -1, second),
                ("step", 2, 0, second), ("step", -2, 0, second), ("step", 0, 0, ("step", 0, 1, ("join", 2, goal))),
                ("step", 0, 0, ("step", 0, 1, ("join", -1, goal))),
                ("step", 0, 0, ("step", 0, 1, ("join", 1, 0, goal))),
                ("step", 0, 0, ("step", 0, 1, ("join", 1, 0, 1, goal))),
                ["step", 0, 0, second], ("step", 0, 0, list(second)), ("step", 0, 0, ("step", 0, 1, ["goal"])),
                ("step", 0, 0, ("step", 0, 1, ("goal", 0))), ("step", 0, 0, ("step", 0, 1, ())),
                # the goal is known, but the case is a clash
                ("step", 0, 0, ("split", 0, 2, (goal, second))), ("step", 0, 0, ("split", 0, 2, (second, second))),
                ("step", 0, 0, ("step", 0, 1, ("split", 0, 2, (goal, goal)))),
                ("step", 0, 0, ("split", True, 2, (("step", 0, 1, clash), goal))),
                ("step", 0, 0, ("split", 1, 0, (second,))), ("step", 0, 0, ("split", 1, 3, (second, second))),
                ("step", 0, 0, ("split", 2, 2, (clash, goal)))]:
            self.assertFalse(self.told(COLUMNS, RULES, self.RULE, value), value)

    def test_what_is_known_goes_over_equal_cells(self):
        # Rows 0 and 1 are equal in column 0; what is known of one of them is known of the other.
        rules = ((((1, 3),), 0, 5), (((0, 5),), 2, 6), (((0, None),), 1, None))
        rule = (((0, None), (1, 3)), 2, None)
        step = ("step", 0, 0, ("step", 1, 0, ("step", 1, 1, ("goal",))))
        self.assertTrue(self.told(THREE, rules, rule, step))
        self.assertFalse(self.told(THREE, rules, rule, step[3]))
        rule = (((0, None),), 1, None)
        self.assertTrue(self.told(THREE, rules, rule, ("join", 2, ("goal",))))
        self.assertFalse(self.told(THREE, rules, rule, ("goal",)))
        self.assertFalse(self.told(THREE, rules, (((2, None),), 1, None), ("join", 2, ("goal",))))

    def test_a_join_of_known_values(self):
        rules = (((), 0, 5), (((0, None),), 1, None), (((0, 5),), 1, None), (((0, 6),), 1, None))
        for k, right in [(1, True), (2, True), (3, False)]:
            join = ("join", k, ("goal",))
            value = ("step", 0, 0, ("step", 0, 1, join))
            self.assertIs(self.told(THREE, rules, ((), 1, None), value), right)
            self.assertFalse(self.told(THREE, rules, ((), 1, None), ("step", 0, 0, join)))
            self.assertFalse(self.told(THREE, rules, ((), 1, None), ("step", 0, 1, join)))
            self.assertFalse(self.told(THREE, rules, ((), 1, None), join))

    def test_a_join_of_equal_cells_of_no_known_value(self):
        rules = ((((0, 5),), 1, None), (((0, None),), 1, None))
        self.assertTrue(self.told(THREE, rules, (((0, None),), 1, None), ("join", 1, ("goal",))))
        self.assertFalse(self.told(THREE, rules, (((0, None),), 1, None), ("join", 0, ("goal",))))
        self.assertTrue(self.told(THREE, rules, (((0, 5),), 1, None), ("join", 0, ("goal",))))

    def test_bent(self):
        for columns, rules, rule, right in ASKED:
            if right:
                for value in bends(tree(columns, rules, rule)):
                    self.told(columns, rules, rule, value)

    def test_wild(self):
        told = []
        for seed in range(2500):
            dice = random.Random(seed)
            columns, rules, rule = made(seed % 250)
            known = oracle.case_of(columns, rule[0], oracle.rows_of(rule))
            value = wild_tree(dice, rules, known, oracle.goal_of(rule), 7)
            told.append(self.told(columns, rules, rule, value))
        self.assertTrue(told.count(True) > 200 and told.count(False) > 200)

    def test_other_rules(self):
        for seed in range(200):
            columns, rules, rule = made(seed)
            shown = tree(columns, rules, rule)
            for other in (made(seed + 1000)[1], rules[1:], rules[::-1]):
                if shown is not None and oracle.right_rules(columns, other):
                    self.told(columns, other, rule, shown)

    def test_any_value(self):
        value = ("step", 0, 0, ("step", 0, 1, ("goal",)))
        more = [shared(20), nested(100, tuple, value), nested(100, list, value), ("step", 0, 0, nested(90, list)),
                ("join", shared(20), value), ("join", 1, shared(20)), ("split", 0, 2, shared(20))]
        for value in any_values() + more:
            self.assertFalse(self.told(COLUMNS, RULES, self.RULE, value))

    def test_deep(self):
        for last, right in [(("step", 0, 1, ("goal",)), True), (("goal",), False), (None, False)]:
            value = last
            for k in range(5000):
                value = ("step", 0, 0, value)
            self.assertIs(is_tree(COLUMNS, RULES, self.RULE, value), right)


if __name__ == "__main__":
    unittest.main()
