"""Point 7: breaks, rows that are enough, and count trees."""

import random
import unittest
from itertools import combinations

from whererules.breaks import breaks, count_tree, fewest_out, holds, is_count_tree
from whererules.errors import InvalidNumber

import oracle
from samples import BIG, any_values, bends, made_columns, made_rules, made_table, nested, shared

COLUMNS = (None, None, (0, 1))
RULES = ((((0, 44),), 2, 1), (((1, None), (2, 1)), 0, None))
TABLE = ((44, 7, 1), (44, 8, 0), (1, 7, 1))
THREE = (None, None, None)


def made(seed):
    """Columns, rules and a table."""
    dice = random.Random(seed)
    columns = made_columns(seed)
    return columns, made_rules(dice, columns, 4), made_table(dice, columns, 8)


class Breaks(unittest.TestCase):
    def test_value_rules(self):
        rules = ((((0, 1),), 1, 5),)
        table = ((1, 5, 0), (1, 6, 0), (2, 6, 0), (1, 4, 0), (1, 5, 9))
        self.assertEqual(breaks(THREE, rules, table), [(0, 1), (0, 3)])
        self.assertEqual(breaks(THREE, (((), 0, 1),), table), [(0, 2)])
        self.assertEqual(breaks(THREE, ((((0, 1), (2, 9)), 1, 0),), table), [(0, 4)])

    def test_pair_rules(self):
        table = ((1, 5, 0), (1, 6, 0), (2, 6, 1), (2, 6, 0), (1, 5, 2))
        self.assertEqual(breaks(THREE, ((((0, None),), 1, None),), table), [(0, 0, 1), (0, 1, 4)])
        self.assertEqual(breaks(THREE, ((((0, 2),), 2, None),), table), [(0, 2, 3)])
        self.assertEqual(breaks(THREE, ((((0, 1), (1, None)), 2, None),), table), [(0, 0, 4)])
        self.assertEqual(breaks(THREE, ((((0, None), (1, None)), 2, None),), table), [(0, 0, 4), (0, 2, 3)])
        self.assertEqual(breaks(THREE, (((), 0, None),), table[1:4]), [(0, 0, 1), (0, 0, 2)])

    def test_equal_values_of_different_columns_do_not_matter(self):
        self.assertEqual(breaks(THREE, ((((0, None),), 1, None),), ((1, 1, 1), (2, 1, 1), (1, 1, 2))), [])

    def test_over_several_rules_ascending(self):
        rules = ((((0, None),), 1, None), (((0, 1),), 1, 5), ((), 2, None), (((0, 3),), 1, 5))
        table = ((1, 5, 0), (1, 6, 0), (1, 7, 1))
        found = [(0, 0, 1), (0, 0, 2), (0, 1, 2), (1, 1), (1, 2), (2, 0, 2), (2, 1, 2)]
        self.assertEqual(breaks(THREE, rules, table), found)
        self.assertEqual(breaks(THREE, (rules[1], rules[1]), table), [(0, 1), (0, 2), (1, 1), (1, 2)])

    def test_equal_rows(self):
        self.assertEqual(breaks(THREE, (((), 0, 2),), ((1, 1, 1),) * 3), [(0, 0), (0, 1), (0, 2)])
        self.assertEqual(breaks(THREE, (((), 0, None), (((0, None),), 1, None)), ((1, 1, 1),) * 8), [])

    def test_no_rows_and_no_rules(self):
        self.assertEqual(breaks(THREE, (((), 0, 2), ((), 0, None)), ()), [])
        self.assertEqual(breaks(THREE, (), ((1, 1, 1), (1, 2, 1))), [])

    def test_eight_rows(self):
        table = tuple([(k, 0, 0) for k in range(8)])
        self.assertEqual(breaks(THREE, (((), 0, BIG),), table), [(0, k) for k in range(8)])
        pairs = [(0, i, j) for i in range(8) for j in range(8) if i < j]
        self.assertEqual(breaks(THREE, (((), 0, None),), table), pairs)

    def test_against_the_oracle(self):
        for seed in range(400):
            columns, rules, table = made(seed)
            self.assertEqual(breaks(columns, rules, table), oracle.all_breaks(rules, table))


class Holds(unittest.TestCase):
    def test_each_rule(self):
        self.assertEqual([holds(COLUMNS, rule, TABLE) for rule in RULES], [False, False])
        self.assertEqual([holds(COLUMNS, rule, TABLE[:1]) for rule in RULES], [True, True])
        self.assertEqual([holds(COLUMNS, rule, ()) for rule in RULES], [True, True])

    def test_against_the_oracle(self):
        told = []
        for seed in range(400):
            columns, rules, table = made(seed)
            for rule in rules:
                told.append(holds(columns, rule, table))
                self.assertIs(told[-1], oracle.rule_holds(rule, table))
        self.assertEqual({True, False}, set(told))


class FewestOut(unittest.TestCase):
    def judge(self, columns, rules, table):
        out = fewest_out(columns, rules, table)
        self.assertIs(out.__class__, tuple)
        self.assertTrue(all(oracle.below(row, len(table)) for row in out))
        self.assertEqual(list(out), sorted(set(out)))
        self.assertTrue(oracle.all_hold(rules, oracle.without(table, out)))
        for many in range(len(out)):
            for less in combinations(range(len(table)), many):
                self.assertFalse(oracle.all_hold(rules, oracle.without(table, less)))
        return len(out)

    def test_by_hand(self):
        self.assertEqual(self.judge(COLUMNS, RULES, TABLE), 2)
        self.assertEqual(self.judge(COLUMNS, RULES, ()), 0)
        self.assertEqual(self.judge(COLUMNS, (), TABLE), 0)
        table = tuple([(k, 0, 0) for k in range(8)])
        self.assertEqual(self.judge(THREE, (((), 0, None),), table), 7)
        self.assertEqual(self.judge(THREE, (((), 0, 9),), table), 8)
        self.assertEqual(self.judge(THREE, (((), 0, None),), ((1, 1, 1),) * 8), 0)
        # The middle row is in both breaks.
        rules = ((((0, None),), 2, None), (((1, None),), 2, None))
        self.assertEqual(fewest_out(THREE, rules, ((1, 1, 1), (1, 2, 2), (2, 2, 3))), (1,))

    def test_all_sets(self):
        counts = [self.judge(*made(seed)) for seed in range(300)]
        self.assertTrue({0, 1, 2, 3, 4, 5, 6} <= set(counts))


class CountTree(unittest.TestCase):
    def judge(self, columns, rules, table):
        count = len(fewest_out(columns, rules, table))
        value = count_tree(columns, rules, table)
        if count == 0:
            self.assertIsNone(value)
        else:
            self.assertTrue(oracle.count_tree_judged(rules, table, count, value))
        for number in range(1, 9):
            self.assertIs(is_count_tree(columns, rules, table, number, value), number == count)
        return count

    def test_by_hand(self):
        self.assertEqual(self.judge(COLUMNS, RULES, TABLE), 2)
        self.assertEqual(self.judge(COLUMNS, RULES, TABLE[:1]), 0)
        self.assertEqual(self.judge(COLUMNS, RULES, ()), 0)
        self.assertEqual(count_tree(COLUMNS, RULES, TABLE[1:2]), ((0, 0), ()))

    def test_all_counts(self):
        counts = [self.judge(*made(seed)) for seed in range(300)]
        table = tuple([(k, 0, 0) for k in range(8)])
        counts.append(self.judge(THREE, (((), 0, None),), table))
        counts.append(self.judge(THREE, (((), 0, 9), ((), 0, None)), table))
        self.assertEqual(set(counts), set(range(9)))

    def test_no_count_tree_of_a_greater_number(self):
        for seed in range(60):
            columns, rules, table = made(seed)
            count = len(fewest_out(columns, rules, table))
            found = breaks(columns, rules, table)
            for told in found:
                self.assertIs(is_count_tree(columns, rules, table, 1, (told, ())), True)
                self.assertIs(is_count_tree(columns, rules, table, count + 1, (told, ())), False)


class IsCountTree(unittest.TestCase):
    TREE = ((1, 0, 2), (((0, 1), ()), ((0, 1), ())))

    def told(self, number, value):
        told = is_count_tree(COLUMNS, RULES, TABLE, number, value)
        self.assertIs(told, oracle.count_tree_judged(RULES, TABLE, number, value))
        return told

    def test_right(self):
        self.assertTrue(self.told(2, self.TREE))
        self.assertTrue(self.told(1, ((0, 1), ())))
        self.assertTrue(self.told(1, ((1, 0, 2), ())))
        self.assertTrue(self.told(2, ((0, 1), (((1, 0, 2), ()),))))

    def test_wrong(self):
        for number, value in [
                (2, ((0, 1), ())), (1, self.TREE), (3, self.TREE),
                # a break of which a row is left out
                (2, ((0, 1), (((0, 1), ()),))), (2, ((1, 0, 2), (((1, 0, 2), ()), ((0, 1), ())))),
                # breaks that are none
                (1, ((0, 0), ())), (1, ((1, 2, 0), ())), (1, ((1, 0, 1), ())), (1, ((2, 1), ())), (1, ((0, 3), ())),
                (1, ((-2, 1), ())), (1, ((), ())), (1, ((0,), ())), (1, ((0, 1, 2), ())), (1, ((0, 1, 1), ())),
                # True and False in the place of numbers
                (1, ((False, 1), ())), (1, ((0, True), ())), (1, ((True, 0, 2), ())), (1, ((1, False, 2), ())),
                (2, ((0, 1), (((True, 0, 2), ()),))),
                # lists, other lengths
                (1, [(0, 1), ()]), (1, ([0, 1], ())), (1, ((0, 1), [])), (2, ((0, 1), [((1, 0, 2), ())])),
                (2, ((0, 1), ([(1, 0, 2), ()],))), (2, (self.TREE[0], self.TREE[1][:1])),
                (2, (self.TREE[0], self.TREE[1] * 2)), (2, ((0, 1), ((1, 0, 2), ()))), (1, ((0, 1),)),
                (1, ((0, 1), (), ())), (1, ((0, 1), None)), (1, (0, 1)), (1, ()), (1, None), (1, True), (1, "ab")]:
            self.assertFalse(self.told(number, value), value)

    def test_any_value(self):
        more = [((0, 1), nested(20, tuple)), (nested(20, tuple), ()), (nested(20, list), ()), ((0, 1), shared(20)),
                (shared(20), ()), ((shared(19), 1), ()), nested(200, tuple, self.TREE)]
        for value in any_values() + more:
            for number in (1, 2, 8):
                self.assertFalse(self.told(number, value))

    def test_bent(self):
        for value in bends(self.TREE):
            self.told(2, value)
        for seed in range(60):
            columns, rules, table = made(seed)
            table = table[:4]
            count = len(fewest_out(columns, rules, table))
            if 1 <= count <= 3:
                tree = count_tree(columns, rules, table)
                for value in bends(tree):
                    told = is_count_tree(columns, rules, table, count, value)
                    self.assertIs(told, oracle.count_tree_judged(rules, table, count, value), value)

    def test_deepest(self):
        table = tuple([(k, 0, 0) for k in range(8)])
        rules = (((), 0, 9), ((), 1, 9))
        value = ()
        for row in range(7, -1, -1):
            value = ((row % 2, row), (value,) if value else ())
        self.assertIs(is_count_tree(THREE, rules, table, 8, value), True)
        self.assertIs(is_count_tree(THREE, rules, table[:7], 8, value), False)
        self.assertIs(is_count_tree(THREE, rules, table, 7, value), False)

    def test_wrong_numbers(self):
        for number in (0, 9, -1, BIG, True, False, None, "1", "", (1,), [1], (), nested(20, list)):
            for value in (self.TREE, None, ()):
                self.assertRaises(InvalidNumber, is_count_tree, COLUMNS, RULES, TABLE, number, value)
        for number in range(1, 9):
            self.assertIs(is_count_tree(COLUMNS, RULES, TABLE, number, self.TREE), number == 2)


if __name__ == "__main__":
    unittest.main()
