"""Point 19: sure starts."""

import random
import unittest

from whererules.errors import Broken, InvalidColumns, InvalidNumber, InvalidRules, InvalidSettled, InvalidTable
from whererules.starts import least_starts, stop

import oracle
import oracle_fixes
from samples import BIG, any_values, made_columns, made_row, made_rules
from wrong import assert_raises

COLUMNS = (None, None, (0, 1))
RULES = ((((0, 44),), 2, 1), (((1, None), (2, 1)), 0, None))
TABLE = ((44, 7, 1), (44, 8, 1), (1, 9, 1))
BROKEN = ((44, 7, 1), (44, 8, 0), (1, 7, 1))
THREE = (None, None, None)


def made(seed):
    """Columns, rules, and a master in which they hold."""
    dice = random.Random(seed)
    columns = made_columns(seed)
    rules, master = made_rules(dice, columns, 8), ()
    for _ in range(12):
        more = master + (made_row(dice, columns),)
        if len(more) <= 8 and oracle.all_hold(rules, more):
            master = more
    return columns, rules, master


class Stop(unittest.TestCase):
    def test_by_hand(self):
        chain = ((((0, None),), 1, None), (((1, None),), 2, None))
        key = ((1, 1, 1), (2, 2, 2))
        for arguments, right in [
                ((COLUMNS, RULES, TABLE, 0, (0,)), [(0, 2, 1)]), ((COLUMNS, RULES, TABLE, 0, (0, 1)), None),
                ((COLUMNS, RULES, TABLE, 0, (0, 1, 2)), None), ((COLUMNS, RULES, TABLE, 0, ()), []),
                ((COLUMNS, RULES, TABLE, 0, (1,)), []), ((COLUMNS, RULES, TABLE, 0, (1, 2)), None),
                ((COLUMNS, RULES, TABLE, 2, (0, 1)), []), ((COLUMNS, RULES, TABLE, 2, (1, 2)), None),
                ((THREE, chain, key, 1, (0,)), None), ((THREE, chain, key, 1, (1,)), [(1, 2, 2)]),
                ((THREE, chain, key, 1, (2,)), []), ((THREE, (), key, 0, (0, 1)), []), ((THREE, (), key, 0, (0, 1, 2)), None),
                ((THREE, (((), 0, None), ((), 1, None), ((), 2, None)), key[:1], 0, ()), None)]:
            told = stop(*arguments)
            self.assertEqual(told, right, arguments)

    def test_all_runs_and_all_sets(self):
        told = {True: 0, False: 0}
        for seed in range(300):
            columns, rules, master = made(seed)
            for number in range(len(master)):
                for settled in oracle.subsets(tuple(range(len(columns)))):
                    shown = stop(columns, rules, master, number, settled)
                    right = oracle_fixes.is_sure(columns, rules, master, number, settled)
                    self.assertIs(shown is None, right, (columns, rules, master, number, settled))
                    told[right] += 1
                    if not right:
                        self.assertTrue(oracle_fixes.is_run(rules, master, master[number], settled, shown))
                        end = oracle_fixes.end_of(rules, master, master[number], settled, shown)
                        self.assertNotEqual(len(end[1]), len(columns))
                        self.assertIs(shown.__class__, list)
        self.assertTrue(told[True] > 500 and told[False] > 500, told)


class LeastStarts(unittest.TestCase):
    def test_by_hand(self):
        chain = ((((0, None),), 1, None), (((1, None),), 2, None))
        for arguments, right in [
                ((COLUMNS, RULES, TABLE, 0), [(0, 1), (1, 2)]), ((COLUMNS, RULES, TABLE, 2), [(1, 2)]),
                ((THREE, chain, ((1, 1, 1),), 0), [(0,)]), ((THREE, (), ((1, 1, 1),), 0), [(0, 1, 2)]),
                ((THREE, (((), 0, None), ((), 1, None), ((), 2, None)), ((1, 1, 1),), 0), [()]),
                ((THREE, chain + ((((2, None),), 0, None),), ((1, 1, 1),), 0), [(0,), (1,), (2,)])]:
            self.assertEqual(least_starts(*arguments), right, arguments)

    def test_all_sets(self):
        several = 0
        for seed in range(300):
            columns, rules, master = made(seed)
            for number in range(len(master)):
                told = least_starts(columns, rules, master, number)
                self.assertEqual(told, oracle_fixes.all_least_starts(columns, rules, master, number))
                self.assertIs(told.__class__, list)
                several += len(told) > 1
        self.assertGreater(several, 20)


class Errors(unittest.TestCase):
    def test_number(self):
        for value in [-1, 3, 8, BIG, True, False, None, "0", (0,)] + any_values():
            if not oracle.below(value, 3):
                for table in (TABLE, BROKEN):
                    assert_raises(self, InvalidNumber, stop, (COLUMNS, RULES, table, value, (0,)))
                    assert_raises(self, InvalidNumber, stop, (COLUMNS, RULES, table, value, (1, 0)))
                    assert_raises(self, InvalidNumber, least_starts, (COLUMNS, RULES, table, value))
                assert_raises(self, InvalidTable, stop, (COLUMNS, RULES, TABLE * 3, value, (1, 0)))
                assert_raises(self, InvalidTable, least_starts, (COLUMNS, RULES, TABLE * 3, value))
                assert_raises(self, InvalidRules, stop, (COLUMNS, RULES * 5, TABLE * 3, value, (1, 0)))
                assert_raises(self, InvalidRules, least_starts, (COLUMNS, RULES * 5, TABLE * 3, value))
                assert_raises(self, InvalidColumns, stop, (None, RULES * 5, TABLE * 3, value, (1, 0)))
                assert_raises(self, InvalidColumns, least_starts, (None, RULES * 5, TABLE * 3, value))
        assert_raises(self, InvalidNumber, stop, (COLUMNS, RULES, (), 0, ()))
        assert_raises(self, InvalidNumber, least_starts, (COLUMNS, RULES, (), 0))

    def test_settled(self):
        for value in [(1, 0), (0, 0), (3,), [0], (True,), None] + any_values():
            if not oracle_fixes.right_settled(COLUMNS, value):
                assert_raises(self, InvalidSettled, stop, (COLUMNS, RULES, TABLE, 0, value))
                assert_raises(self, InvalidSettled, stop, (COLUMNS, RULES, BROKEN, 0, value))

    def test_broken(self):
        for master, found in [(BROKEN, (0, 1)), (((44, 7, 1), (1, 7, 1), (1, 9, 1)), (1, 0, 1)),
                              (((1, 7, 1), (44, 7, 0), (2, 7, 1)), (0, 1)), (((1, 7, 1), (2, 8, 1), (2, 7, 1)), (1, 0, 2))]:
            for call, arguments in [(stop, (COLUMNS, RULES, master, 0, ())), (least_starts, (COLUMNS, RULES, master, 2))]:
                with self.assertRaises(Broken) as caught:
                    call(*arguments)
                self.assertEqual(caught.exception.found, found)

    def test_broken_made(self):
        told = 0
        for seed in range(200):
            dice = random.Random(seed)
            columns, rules, master = made(seed)
            master += (made_row(dice, columns),)
            if len(master) <= 8 and not oracle.all_hold(rules, master):
                with self.assertRaises(Broken) as caught:
                    least_starts(columns, rules, master, 0)
                self.assertEqual(caught.exception.found, oracle.all_breaks(rules, master)[0])
                told += 1
        self.assertGreater(told, 30)


if __name__ == "__main__":
    unittest.main()
