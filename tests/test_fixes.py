"""Point 18: fixes, runs, runs that part, and guards."""

import random
import time
import unittest

from whererules.errors import InvalidColumns, InvalidRow, InvalidRules, InvalidSettled, InvalidTable
from whererules.fixes import fix, next_steps, run

import oracle
import oracle_fixes
from samples import BIG, any_values, bends, made_columns, made_row, made_rules, made_table
from wrong import assert_raises

COLUMNS = (None, None, (0, 1))
RULES = ((((0, 44),), 2, 1), (((1, None), (2, 1)), 0, None))
TABLE = ((44, 7, 1), (44, 8, 0), (1, 7, 1))
THREE = (None, None, None)
MASTER = ((1, 2, 3), (1, 2, 4), (5, 6, 7), (5, 6, 7))
PAIR = (((0, None),), 2, None)

STEPS = [
    # columns, rules, master, row, settled, the steps
    (COLUMNS, RULES, TABLE, (44, 7, 0), (0,), [(0, 2, 1)]), (COLUMNS, RULES, TABLE, (44, 7, 0), (), []),
    (COLUMNS, RULES, TABLE, (45, 7, 0), (0,), []), (COLUMNS, RULES, TABLE, (44, 7, 0), (0, 2), []),
    (COLUMNS, RULES, TABLE, (44, 7, 0), (0, 1, 2), []), (COLUMNS, RULES, (), (44, 7, 0), (0,), [(0, 2, 1)]),
    (COLUMNS, RULES, TABLE, (9, 7, 1), (1, 2), [(1, 0, 1), (1, 0, 44)]), (COLUMNS, RULES, TABLE, (9, 8, 1), (1, 2), []),
    (COLUMNS, RULES, TABLE, (9, 7, 0), (1, 2), []), (COLUMNS, RULES, TABLE, (9, 7, 1), (1,), []),
    (COLUMNS, RULES, TABLE, (9, 7, 1), (2,), []), (COLUMNS, RULES, (), (9, 7, 1), (1, 2), []),
    # a value rule without a given; the value that the row has already
    (THREE, (((), 0, 8),), (), (1, 1, 1), (), [(0, 0, 8)]), (THREE, (((), 0, 1),), (), (1, 1, 1), (), [(0, 0, 1)]),
    (THREE, (((), 0, 1),), (), (1, 1, 1), (0,), []), (THREE, (((), 0, 1),), (), (1, 1, 1), (1, 2), [(0, 0, 1)]),
    # a pair rule without a given: all values of the master
    (THREE, (((), 2, None),), MASTER, (1, 1, 1), (), [(0, 2, 3), (0, 2, 4), (0, 2, 7)]),
    (THREE, (PAIR,), MASTER, (1, 1, 1), (0,), [(0, 2, 3), (0, 2, 4)]), (THREE, (PAIR,), MASTER, (5, 1, 1), (0,), [(0, 2, 7)]),
    (THREE, (PAIR,), MASTER, (6, 1, 1), (0,), []), (THREE, (PAIR,), MASTER, (1, 1, 1), (1,), []),
    # the master's rows are to match the rule, too
    (THREE, ((((0, 5),), 2, None),), MASTER, (5, 1, 1), (0,), [(0, 2, 7)]),
    (THREE, ((((0, 5),), 2, None),), MASTER, (1, 1, 1), (0,), []),
    (THREE, ((((0, None), (1, 6)), 2, None),), MASTER, (5, 6, 1), (0, 1), [(0, 2, 7)]),
    (THREE, ((((0, None), (1, 6)), 2, None),), MASTER, (5, 2, 1), (0, 1), []),
    (THREE, ((((0, None), (1, 6)), 2, None),), MASTER, (1, 6, 1), (0, 1), []),
    (THREE, ((((0, None), (1, None)), 2, None),), MASTER, (1, 6, 1), (0, 1), []),
    # several rules for one column, each with its own steps, in order
    (THREE, (PAIR, (((1, None),), 2, None), ((), 2, 9), PAIR), MASTER, (5, 2, 0), (0, 1),
     [(0, 2, 7), (1, 2, 3), (1, 2, 4), (2, 2, 9), (3, 2, 7)]),
    (THREE, (((), 2, BIG), ((), 0, None)), ((BIG, 0, 0),), (5, 2, 0), (), [(0, 2, BIG), (1, 0, BIG)]),
]


def made(seed, most=4):
    """Columns, rules, a master, a row, and settled columns."""
    dice = random.Random(seed)
    columns = made_columns(seed, most)
    settled = tuple([column for column in range(len(columns)) if dice.random() < 0.4])
    return (columns, made_rules(dice, columns, 8), made_table(dice, columns, dice.choice([0, 2, 4, 8])),
            made_row(dice, columns), settled)


class NextSteps(unittest.TestCase):
    def test_by_hand(self):
        for *arguments, right in STEPS:
            told = next_steps(*arguments)
            self.assertEqual(told, right, arguments)
            self.assertIs(told.__class__, list)

    def test_made(self):
        steps = 0
        for seed in range(1500):
            arguments = made(seed)
            told = next_steps(*arguments)
            self.assertEqual(told, oracle_fixes.steps_of(*arguments[1:]), arguments)
            steps += len(told)
        self.assertGreater(steps, 500)


class Run(unittest.TestCase):
    def test_by_hand(self):
        for arguments, right in [
                ((COLUMNS, RULES, TABLE, (44, 7, 0), (0,)), [(0, 2, 1)]), ((COLUMNS, RULES, TABLE, (44, 7, 0), ()), []),
                # the row changes by a step, and then matches another rule
                ((THREE, (((), 0, 1), (((0, 1),), 1, 2), (((1, 2),), 2, 3)), (), (5, 5, 5), ()),
                 [(0, 0, 1), (1, 1, 2), (2, 2, 3)]),
                ((THREE, ((((1, 2),), 2, 3), (((0, 1),), 1, 2), ((), 0, 1)), (), (5, 5, 5), ()),
                 [(2, 0, 1), (1, 1, 2), (0, 2, 3)]),
                ((THREE, (((), 0, 1), (((0, 5),), 1, 2)), (), (5, 5, 5), ()), [(0, 0, 1)]),
                ((THREE, (PAIR, (((2, None),), 1, None)), MASTER, (5, 0, 0), (0,)), [(0, 2, 7), (1, 1, 6)])]:
            told = run(*arguments)
            self.assertEqual(told, right)
            self.assertIs(told.__class__, list)

    def test_made(self):
        lengths = {}
        for seed in range(1500):
            arguments = made(seed)
            told = run(*arguments)
            self.assertTrue(oracle_fixes.is_run(*arguments[1:], told), (arguments, told))
            lengths[len(told)] = lengths.get(len(told), 0) + 1
        self.assertTrue(all(lengths.get(many, 0) > 100 for many in range(3)), lengths)


class Fix(unittest.TestCase):
    def judge(self, arguments):
        """Whether the row is fixed; asserts that what is returned shows it."""
        columns, rules, master, row, settled = arguments
        told = fix(*arguments)
        if told[0] == "parts":
            _, first, second = told
            self.assertTrue(oracle_fixes.some_part(*arguments[1:]), arguments)
            for steps in (first, second):
                self.assertTrue(oracle_fixes.is_run(*arguments[1:], steps), (arguments, told))
            self.assertTrue(oracle_fixes.part(first, second), told)
            self.assertIsNot(first, second)
            return False
        kind, end, done, guards = told
        self.assertEqual(kind, "fixed")
        self.assertFalse(oracle_fixes.some_part(*arguments[1:]), arguments)
        _, ends = oracle_fixes.all_steps(*arguments[1:])
        self.assertEqual(ends, {(end, done)})
        self.assertTrue(oracle_fixes.guards_judged(columns, rules, master, settled, (end, done), guards), (arguments, told))
        return True

    def test_by_hand(self):
        chain = (((), 0, 1), (((0, 1),), 1, 2), (((1, 2),), 2, 3))
        for arguments, right in [
                ((COLUMNS, RULES, TABLE, (44, 7, 0), (0,)), True), ((COLUMNS, RULES, TABLE, (9, 7, 1), (1, 2)), False),
                ((COLUMNS, RULES, TABLE, (44, 7, 0), ()), True), ((COLUMNS, RULES, TABLE, (44, 7, 0), (0, 1, 2)), True),
                ((THREE, chain, (), (0, 0, 0), ()), True), ((THREE, chain + (((), 2, 3),), (), (0, 0, 0), ()), True),
                ((THREE, chain + (((), 2, 4),), (), (0, 0, 0), ()), False),
                ((THREE, chain + (((), 1, 2),), (), (0, 0, 0), ()), True),
                ((THREE, chain + (((), 1, 3),), (), (0, 0, 0), ()), False),
                # what follows only if another run settles a column to another value
                ((THREE, (((), 0, 1), ((), 0, 2), (((0, 2),), 1, 5)), (), (0, 0, 0), ()), False),
                # a column that is settled before another rule for it can be used, in one order, but not in another one
                ((THREE, (((), 0, 1), (((0, 1),), 1, 2), ((), 1, 3)), (), (0, 0, 0), ()), False),
                ((THREE, (((), 0, 1), (((0, 1),), 1, 2), ((), 1, 3)), (), (0, 0, 0), (1,)), True),
                # the other value needs the column itself to be settled first: nothing parts
                ((THREE, (((), 0, 1), (((0, 1),), 1, 2), (((1, 2),), 0, 9)), (), (0, 0, 0), ()), True),
                ((THREE, (((), 0, 1), (((0, 1),), 1, 2), (((1, 2),), 0, 9)), (), (0, 2, 0), (1,)), False),
                # masters: a pair rule that settles to two values, to one, to none
                ((THREE, (PAIR,), MASTER, (1, 0, 0), (0,)), False), ((THREE, (PAIR,), MASTER, (5, 0, 0), (0,)), True),
                ((THREE, (PAIR,), MASTER, (6, 0, 0), (0,)), True), ((THREE, (PAIR,), (), (1, 0, 0), (0,)), True),
                ((THREE, (PAIR, (((0, 5),), 2, 8)), MASTER, (5, 0, 0), (0,)), False),
                ((THREE, (PAIR, (((0, 5),), 2, 7)), MASTER, (5, 0, 0), (0,)), True)]:
            self.assertIs(self.judge(arguments), right, arguments)

    def test_the_end(self):
        chain = (((), 0, 1), (((0, 1),), 1, 2), (((1, 2),), 2, 3))
        self.assertEqual(fix(THREE, chain, (), (0, 0, 0), ())[:3], ("fixed", (1, 2, 3), (0, 1, 2)))
        self.assertEqual(fix(THREE, chain, (), (0, 0, 0), (0,))[:3], ("fixed", (0, 0, 0), (0,)))
        self.assertEqual(fix(THREE, chain, (), (1, 0, 0), (0, 2)), ("fixed", (1, 2, 0), (0, 1, 2), ((1, (0, 2)),)))
        self.assertEqual(fix(THREE, chain, (), (0, 0, 0), (0, 1, 2)), ("fixed", (0, 0, 0), (0, 1, 2), ()))

    def test_made(self):
        told = {}
        for seed in range(4000):
            arguments = made(seed)
            key = (self.judge(arguments), len(arguments[0]))
            told[key] = told.get(key, 0) + 1
        self.assertTrue(all(told.get((right, many), 0) > 50 for right in (True, False) for many in (2, 3, 4)), told)

    def test_long_runs(self):
        told = []
        for seed in range(1500):
            dice = random.Random(seed)
            columns = (None,) * 4
            rules = [(((k, 1),), k + 1, 1) for k in range(3)] + list(made_rules(dice, columns, 4))
            dice.shuffle(rules)
            arguments = (columns, tuple(rules), made_table(dice, columns, 5), (1,) + made_row(dice, columns)[1:], (0,))
            told.append(self.judge(arguments))
        self.assertTrue(told.count(True) > 200 and told.count(False) > 200, told.count(True))

    def test_a_master_that_breaks_no_rule(self):
        # A row of the master is never changed, and nothing parts from it.
        for seed in range(300):
            columns, rules, master, _, settled = made(seed)
            if master and oracle.all_hold(rules, master):
                for row in master:
                    told = fix(columns, rules, master, row, settled)
                    self.assertEqual(told[:2], ("fixed", row))

    def test_a_row_that_is_right_beside_the_master(self):
        # No run from a row with its settled values settles a column to another value than its own.
        steps = 0
        for seed in range(1200):
            columns, rules, master, row, settled = made(seed)
            other = made_row(random.Random(-seed), columns)
            if oracle.all_hold(rules, master + (row,)):
                begun = tuple([row[k] if k in settled else other[k] for k in range(len(columns))])
                told = fix(columns, rules, master, begun, settled)
                self.assertEqual(told[0], "fixed")
                self.assertTrue(all(told[1][column] == row[column] for column in told[2]))
                steps += len(run(columns, rules, master, begun, settled))
        self.assertGreater(steps, 50)

    def test_lists_are_new(self):
        arguments = (THREE, (PAIR,), MASTER, (1, 0, 0), (0,))
        first, second = fix(*arguments), fix(*arguments)
        for one, other in zip(first[1:], second[1:]):
            self.assertEqual(one, other)
            self.assertIsNot(one, other)
        first[1].append("more")
        self.assertEqual(fix(*arguments), second)

    def test_time(self):
        columns = (None,) * 4
        start = time.monotonic()
        for seed in range(100):
            dice = random.Random(seed)
            master = tuple([tuple([dice.randint(0, 9) for _ in columns]) for _ in range(8)])
            rules = tuple([((), k % 4, None) for k in range(8)])
            for settled in oracle.subsets((0, 1, 2, 3)):
                fix(columns, rules, master, master[0], settled)
        self.assertLess(time.monotonic() - start, 5)


class Errors(unittest.TestCase):
    WRONG = [(1, 0), (0, 0), (3,), (-1,), (True,), (False, 1), [0], [], None, 0, True, "", "0", ((0,),), (None,), ("0",),
             (0, 1, 2, 3), (0, 2, 1), (BIG,)]

    def test_settled(self):
        self.assertEqual(len([value for value in any_values() if oracle_fixes.right_settled(COLUMNS, value)]), 3)
        for call in (next_steps, run, fix):
            for value in self.WRONG + any_values() + list(bends((0, 1))):
                if not oracle_fixes.right_settled(COLUMNS, value):
                    assert_raises(self, InvalidSettled, call, (COLUMNS, RULES, TABLE, (44, 7, 0), value))
                    assert_raises(self, InvalidRow, call, (COLUMNS, RULES, TABLE, (44, 7, 2), value))
                    assert_raises(self, InvalidTable, call, (COLUMNS, RULES, TABLE * 3, (44, 7, 2), value))
                    assert_raises(self, InvalidRules, call, (COLUMNS, RULES * 5, TABLE * 3, (44, 7, 2), value))
                    assert_raises(self, InvalidColumns, call, ((), RULES * 5, TABLE * 3, (44, 7, 2), value))
            for settled in oracle.subsets((0, 1, 2)):
                call(COLUMNS, RULES, TABLE, (44, 7, 0), settled)


if __name__ == "__main__":
    unittest.main()
