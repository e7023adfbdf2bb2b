"""Points 3, 8, 9 and 10: peace, cases, clashes, trees and wars."""

import random
import unittest

from whererules.peace import is_war, peaceful_row, war

import oracle
from samples import BIG, any_values, bends, made_columns, made_rules, nested, shared
from wild import wild_tree

# Rules at war, with the columns that they are for.
AT_WAR = [
    (((0, 1),), (((), 0, 0), ((), 0, 1))),
    ((None,), (((), 0, 0), ((), 0, 1))),
    # all values of a closed column are refused
    (((0, 1), None), ((((0, 0),), 1, 5), (((0, 1),), 1, 5), ((), 1, 6))),
    (((0, 1, 2), None), ((((0, 0),), 1, 5), (((0, 1),), 1, 6), (((0, 2),), 1, 7), ((), 1, 8))),
    (((3,), None), ((((0, 3),), 1, 5), ((), 1, 6))),
    (((0, 1), (0, 1)), ((((0, 0),), 1, 0), (((0, 1),), 1, 0), (((1, 0),), 0, 0), (((0, 0),), 1, 1))),
    (((0, 1), (2, 3), None), ((((0, 0), (1, 2)), 2, 0), (((0, 0), (1, 3)), 2, 0), (((0, 1), (1, 2)), 2, 0),
                              (((0, 1), (1, 3)), 2, 0), ((), 2, BIG))),
    ((None, None, None), (((), 0, 1), (((0, 1),), 1, 2), (((1, 2),), 2, 3), (((2, 3),), 0, 4))),
]
AT_PEACE = [
    ((None,), ()), (((7,),), ()), (((0, 1), (0, 1), None, None), ()),
    ((None,), (((), 0, 0), ((), 0, 0))),
    ((None, None), ((((0, 0),), 1, 5), (((0, 1),), 1, 6), (((1, 0),), 0, 7))),
    # values of an open column that rules refuse leave others
    ((None, None), tuple([(((0, k),), 1, 5) for k in range(7)]) + (((), 1, 6),)),
    (((0, 1), None), ((((0, 0),), 1, 5), ((), 1, 6))),
    (((0, 1, 2), None), ((((0, 0),), 1, 5), (((0, 1),), 1, 6), ((), 1, 8))),
    # pair rules hold in every table of one row
    ((None, None), (((), 0, None), (((0, None),), 1, None), (((0, 3),), 1, None))),
    (((0, 1), None), ((((0, 0),), 1, BIG), (((0, 1),), 1, BIG), ((), 1, BIG))),
]


def made(seed):
    """Columns and rules, with value rules above all."""
    dice = random.Random(seed)
    columns = made_columns(seed, 3)
    rules = [rule for rule in made_rules(dice, columns, 8) + made_rules(dice, columns, 8)
             if rule[2] is not None or dice.random() < 0.2]
    return columns, tuple(rules[:8])


class PeaceOrWar(unittest.TestCase):
    def judge(self, columns, rules):
        """Whether there is peace; asserts that what is returned shows it."""
        row, tree = peaceful_row(columns, rules), war(columns, rules)
        if row is None:
            self.assertTrue(oracle.war_judged(columns, rules, tree), tree)
            self.assertIs(is_war(columns, rules, tree), True)
        else:
            self.assertIsNone(tree)
            self.assertTrue(oracle.right_row(columns, row))
            self.assertTrue(oracle.all_hold(rules, (row,)))
        return row is not None

    def test_war(self):
        for columns, rules in AT_WAR:
            self.assertFalse(self.judge(columns, rules), rules)

    def test_peace(self):
        for columns, rules in AT_PEACE:
            self.assertTrue(self.judge(columns, rules), rules)

    def test_exactly_one_of_both(self):
        told = []
        for seed in range(500):
            columns, rules = made(seed)
            told.append(self.judge(columns, rules))
            self.assertIs(told[-1], oracle.kept_by_a_row(columns, rules))
        self.assertTrue(told.count(True) > 100 and told.count(False) > 100)

    def test_as_the_interface_has_it(self):
        self.assertIsNone(peaceful_row(((0, 1),), (((), 0, 0), ((), 0, 1))))
        self.assertEqual(peaceful_row((None, (4,)), (((), 0, BIG),)), (BIG, 4))


class IsWar(unittest.TestCase):
    def told(self, columns, rules, value):
        told = is_war(columns, rules, value)
        self.assertIs(told, oracle.war_judged(columns, rules, value), value)
        return told

    def test_right(self):
        columns, rules = AT_WAR[0]
        for value in [("step", 0, 0, ("step", 1, 0, ("clash",))), ("step", 1, 0, ("step", 0, 0, ("clash",))),
                      ("step", 0, 0, ("step", 0, 0, ("step", 1, 0, ("clash",)))),
                      ("split", 0, 0, (("step", 1, 0, ("clash",)), ("step", 0, 0, ("clash",)))),
                      ("step", 0, 0, ("split", 0, 0, (("step", 1, 0, ("clash",)), ("clash",))))]:
            self.assertTrue(self.told(columns, rules, value), value)

    def test_a_value_that_is_not_one_of_the_column(self):
        # The only value of the column is split, and the rules make it another one.
        columns, rules = ((3,), None), ((((0, 3),), 1, 5), ((), 1, 6))
        tree = ("step", 0, 0, ("step", 1, 0, ("clash",)))
        self.assertTrue(self.told(columns, rules, ("split", 0, 0, (tree,))))
        self.assertFalse(self.told(columns, rules, tree))
        self.assertFalse(self.told(columns, rules, ("split", 0, 0, (tree, tree))))
        self.assertFalse(self.told(columns, rules, ("split", 0, 1, (tree,))))
        self.assertFalse(self.told(columns, rules, ("split", 0, 0, ())))

    def test_wrong(self):
        columns, rules = AT_WAR[0]
        clash = ("clash",)
        second = ("step", 1, 0, clash)
        for value in [
                clash, ("goal",), ("step", 0, 0, ("goal",)), ("step", 0, 0, clash), second, (), None,
                # another tree than ("clash",) in a case that is a clash
                ("step", 0, 0, ("step", 1, 0, ("step", 0, 0, clash))), ("step", 0, 0, ("step", 1, 0, ("goal",))),
                ("step", 0, 0, ("split", 0, 0, (second, second))), ("step", 0, 0, ("step", 1, 0, ("clash", 0))),
                ("step", 0, 0, ("step", 1, 0, ("split", 0, 0, (clash, clash)))), ("step", 0, 0, ("step", 1, 0, ())),
                # True and False in the place of numbers
                ("step", False, 0, second), ("step", 0, False, second), ("step", 0, 0, ("step", True, 0, clash)),
                ("split", False, 0, (second, ("step", 0, 0, clash))),
                ("split", 0, False, (second, ("step", 0, 0, clash))),
                # rules, rows and columns that are not there
                ("step", 2, 0, second), ("step", -2, 0, second), ("step", 0, 1, second), ("step", 0, -1, second),
                ("split", 1, 0, (second, ("step", 0, 0, clash))), ("split", 0, 1, (second, ("step", 0, 0, clash))),
                ("split", 0, -1, (second, ("step", 0, 0, clash))), ("step", BIG, 0, second), ("step", None, 0, second),
                # values in another order, too many, too few
                ("split", 0, 0, (("step", 0, 0, clash), second)), ("split", 0, 0, (second,)),
                ("split", 0, 0, (second, ("step", 0, 0, clash), clash)), ("split", 0, 0, second),
                # lists in the place of tuples
                ["step", 0, 0, second], ("step", 0, 0, list(second)), ("step", 0, 0, ("step", 1, 0, ["clash"])),
                ("split", 0, 0, [second, ("step", 0, 0, clash)]), ("step", [0], 0, second),
                # other words, other lengths
                ("Step", 0, 0, second), ("step", 0, 0), ("step", 0, second), ("step", 0, 0, second, second),
                ("step", 0, 0, second, 0), ("split", 0, 0), ("split", 0, (second, ("step", 0, 0, clash))),
                ("split", 0, 0, None), ("clash", "clash"), ("join", 0, clash), ("step",), ("split",), ("join",),
                "clash", 0, True, ("stepp", 0, 0, second), (0, 0, 0, second), ((), 0, 0, second)]:
            self.assertFalse(self.told(columns, rules, value), value)

    def test_a_join_needs_two_rows(self):
        rules = (((), 0, None), ((), 0, 0), ((), 0, 1))
        tree = ("step", 1, 0, ("step", 2, 0, ("clash",)))
        self.assertTrue(self.told((None,), rules, tree))
        self.assertFalse(self.told((None,), rules, ("join", 0, tree)))
        self.assertFalse(self.told((None,), rules, ("step", 0, 0, tree)))

    def test_a_step_needs_its_given(self):
        rules = ((((0, 1),), 1, 5), ((), 0, 1), ((), 1, 6))
        last = ("step", 2, 0, ("clash",))
        self.assertTrue(self.told((None, None), rules, ("step", 1, 0, ("step", 0, 0, last))))
        self.assertFalse(self.told((None, None), rules, ("step", 0, 0, last)))
        self.assertFalse(self.told((None, None), rules, ("step", 2, 0, ("step", 0, 0, ("clash",)))))

    def test_bent(self):
        for columns, rules in AT_WAR[:7]:
            for value in bends(war(columns, rules)):
                self.told(columns, rules, value)

    def test_wild(self):
        told = []
        for seed in range(1500):
            dice = random.Random(seed)
            columns, rules = made(seed % 100)
            known = oracle.Known(columns, 1)
            told.append(self.told(columns, rules, wild_tree(dice, rules, known, lambda case: False, 8)))
        self.assertTrue(told.count(True) > 50 and told.count(False) > 50)

    def test_any_value(self):
        for columns, rules in (AT_WAR[0], AT_PEACE[0]):
            tree = ("step", 0, 0, ("step", 1, 0, ("clash",)))
            more = [shared(20), nested(100, tuple, tree), nested(100, list, tree), ("step", 0, 0, nested(90, list)),
                    (shared(20), 0, 0, tree), ("step", shared(20), 0, tree), ("split", 0, 0, shared(20))]
            for value in any_values() + more:
                self.assertFalse(self.told(columns, rules, value))

    def test_deep(self):
        columns, rules = AT_WAR[0]
        for last, right in [(("step", 1, 0, ("clash",)), True), (("clash",), False), (0, False)]:
            value = last
            for _ in range(5000):
                value = ("step", 0, 0, value)
            self.assertIs(is_war(columns, rules, value), right)

    def test_shared_parts(self):
        columns, rules = AT_WAR[0]
        value = ("clash",)
        for _ in range(60):
            value = ("split", 0, 0, (value, value))
        self.assertIs(is_war(columns, rules, value), False)


if __name__ == "__main__":
    unittest.main()
