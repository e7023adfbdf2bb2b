"""Point 15: rules that are found in a table."""

import random
import time
import unittest

from whererules.covers import more_general
from whererules.errors import InvalidColumns, InvalidNumber, InvalidTable
from whererules.finding import found_rules

import oracle
from oracle_covers import found_by_all
from samples import BIG, any_values, made_columns, made_row, made_table
from wrong import assert_raises

COLUMNS = (None, None, (0, 1))
TABLE = ((44, 7, 1), (44, 8, 0), (1, 7, 1))


class Found(unittest.TestCase):
    def judge(self, columns, table, number):
        told = found_rules(columns, table, number)
        self.assertIs(told.__class__, list)
        self.assertEqual(len(told), len(set(told)), "each once")
        self.assertEqual(sorted(told, key=repr), sorted(found_by_all(columns, table, number), key=repr),
                         (columns, table, number))
        for rule in told:
            self.assertTrue(oracle.right_rule(columns, rule), rule)
            self.assertTrue(oracle.rule_holds(rule, table), rule)
        return told

    def test_by_hand(self):
        one = (None,)
        for columns, table, number, right in [
                (one, (), 1, []), (one, ((5,),), 1, [((), 0, 5), ((), 0, None)]), (one, ((5,),), 2, []),
                (one, ((5,), (5,)), 2, [((), 0, 5), ((), 0, None)]), (one, ((5,), (5,)), 3, []),
                (one, ((5,), (6,)), 1, []), (((5,),), ((5,),), 1, [((), 0, 5), ((), 0, None)]),
                ((None, None), ((1, 2), (3, 2)), 2, [((), 1, 2), ((), 1, None)]),
                ((None, None), ((1, 2), (3, 2)), 1, [((), 1, 2), ((), 1, None)]),
                ((None, None), ((1, 2), (3, 4)), 2, [(((0, None),), 1, None), (((1, None),), 0, None)]),
                ((None, None), ((1, 2), (3, 4)), 1,
                 [(((0, None),), 1, None), (((1, None),), 0, None), (((0, 1),), 1, 2), (((0, 3),), 1, 4),
                  (((1, 2),), 0, 1), (((1, 4),), 0, 3)]),
                # too general, or matched by too few
                ((None, None), ((1, 2), (1, 4), (3, 4)), 2, []),
                ((None, None), ((1, 2), (1, 2), (3, 4)), 3, [(((0, None),), 1, None), (((1, None),), 0, None)]),
                ((None, None), ((1, 2), (1, 2), (3, 4)), 2,
                 [(((0, None),), 1, None), (((1, None),), 0, None), (((0, 1),), 1, 2), (((1, 2),), 0, 1)]),
                ((None, None), ((1, 2), (1, 2), (3, 4), (3, 5)), 2,
                 [(((0, 1),), 1, 2), (((0, 1),), 1, None), (((1, 2),), 0, 1), (((1, None),), 0, None)]),
                # great values; a value in another column only
                ((None, None), ((BIG, BIG + 1), (BIG + 1, BIG)), 2,
                 [(((0, None),), 1, None), (((1, None),), 0, None)])]:
            told = self.judge(columns, table, number)
            self.assertEqual(sorted(told, key=repr), sorted(right, key=repr), (table, number))
        self.assertIn((((2, 1),), 1, 7), self.judge(COLUMNS, TABLE, 2))
        self.assertNotIn((((2, 1),), 1, 7), self.judge(COLUMNS, TABLE, 3))

    def test_a_pair_rule_that_one_row_matches(self):
        # It holds for want of a second row, and it is matched by one row.
        told = self.judge((None, None), ((1, 2), (3, 2), (3, 4)), 1)
        self.assertIn((((0, 1),), 1, None), told)
        self.assertNotIn((((0, 1),), 1, None), self.judge((None, None), ((1, 2), (3, 2), (3, 4)), 2))

    def test_small_tables(self):
        found = 0
        for seed in range(260):
            dice = random.Random(seed)
            columns = made_columns(seed, 3 if seed % 4 else 4)
            table = made_table(dice, columns, 8)
            if seed % 3 == 0 and table:
                table = table[:4] + tuple([dice.choice(table) for _ in range(4)])
            for number in {1, 2, dice.randint(1, 8)}:
                found += len(self.judge(columns, table, number))
        self.assertGreater(found, 500)

    def test_all_numbers_and_sizes(self):
        for size in range(9):
            dice = random.Random(size)
            columns = (None, (0, 1), None)
            table = tuple([made_row(dice, columns) for _ in range(size)])
            for number in range(1, 9):
                told = self.judge(columns, table, number)
                self.assertTrue(told == [] or number <= size)

    def test_four_columns(self):
        for seed in range(6):
            dice = random.Random(seed)
            columns = (None, (0, 1, 2), (0, 1), None)
            table = tuple([made_row(dice, columns) for _ in range(8)])
            self.judge(columns, table, 1 + seed % 3)

    def test_none_is_more_general_than_another(self):
        for seed in range(40):
            dice = random.Random(seed)
            columns = made_columns(seed, 3)
            told = found_rules(columns, made_table(dice, columns, 6), 1)
            for rule in told:
                self.assertFalse(any(more_general(columns, rule, other) for other in told))

    def test_errors(self):
        for number in [0, 9, True, False, None, "1", -1, BIG, (1,), [1]] + any_values():
            if not oracle.integer(number) or not 1 <= number <= 8:
                assert_raises(self, InvalidNumber, found_rules, (COLUMNS, TABLE, number))
                assert_raises(self, InvalidNumber, found_rules, (COLUMNS, (), number))
                assert_raises(self, InvalidTable, found_rules, (COLUMNS, TABLE * 3, number))
                assert_raises(self, InvalidColumns, found_rules, ((), TABLE * 3, number))

    def test_time(self):
        columns = (None, None, (0, 1, 2), (0, 1, 2))
        table = tuple([(k, 7 - k, k % 3, k // 3) for k in range(8)])
        start = time.monotonic()
        for number in range(1, 9):
            found_rules(columns, table, number)
        self.assertLess(time.monotonic() - start, 3)


if __name__ == "__main__":
    unittest.main()
