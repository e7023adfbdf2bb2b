"""Points 3, 23 and 24: drafts, their fillings and wars, and the cells that they force."""

import random
import time
import unittest

from whererules.drafts import draft_war, filling, forced_cells, is_draft, is_draft_war
from whererules.errors import AtWar, InvalidColumns, InvalidRules
from whererules.faults import InvalidDraft

import oracle
from oracle_drafts import all_fillings, case_of_draft, forced, is_filling, is_war, named_values, right_draft
from samples import (
    BIG, any_values, bends, made_columns, made_draft, made_rules, made_table, made_value, nested, same, shared)
from wild import wild_draft_tree
from wrong import assert_raises

COLUMNS = (None, None, (0, 1))
RULES = ((((0, 44),), 2, 1), (((1, None), (2, 1)), 0, None))
CLOSED = ((0, 1, 2), None, (1, 3))
NO_ROW = (((), 2, 0), ((), 2, 1))
ROW = (44, 7, 1)
# The rows of a table with equal values in column 0 are equal in column 1; so are all rows in column 2.
PAIRS = ((((0, None),), 1, None), ((), 2, None))


def gaps(many):
    """A draft of the columns CLOSED with so many entries None in closed columns."""
    rows = []
    for k in range(max(many, 4)):
        rows.append((0 if 2 * k >= many else None, 5, 3 if 2 * k + 1 >= many else None))
    return tuple(rows)


def made(seed, most=4, rows=8, many=8):
    """Columns, rules and a draft."""
    dice = random.Random(seed)
    columns = made_columns(seed, most)
    return columns, made_rules(dice, columns, many), made_draft(dice, columns, rows)


def with_entry(draft, cell, value):
    """The draft with another entry in this cell."""
    rows = [list(row) for row in draft]
    rows[cell[0]][cell[1]] = value
    return tuple([tuple(row) for row in rows])


class IsDraft(unittest.TestCase):
    RIGHT = [
        (), (ROW,), (ROW,) * 8, ((None, None, None),), ((None, None, None),) * 6, ((None, None, 0),) * 8,
        ((None, None, None),) * 6 + ((1, None, 1),) * 2, ((0, BIG, 1), (None, 0, None)), ((10 ** 40, 0, 0),)]
    WRONG = [
        (ROW,) * 9, ((None, None, None),) * 7, ((None, None, 0),) * 9, ((None, None, None),) * 6 + (ROW, (0, 0, None)),
        ROW, [ROW], ([44, 7, 1],), ((44, 7),), ((44, 7, 1, 1),), ((),), ((44, 7, 2),), ((44, 7, -1),), ((-1, 7, 0),),
        ((True, 7, 1),), ((44, 7, True),), ((44, 7, False),), ((44, 7, "0"),), ((44, (7,), 1),), ((None, [], None),),
        (None,), (ROW, None), None, 0, "", ((None, None),), ((None,) * 4,), (ROW, (44, 7, (1,)))]

    def test_by_hand(self):
        for value in self.RIGHT:
            self.assertIs(is_draft(COLUMNS, value), True, value)
        for value in self.WRONG:
            self.assertIs(is_draft(COLUMNS, value), False, value)

    def test_gaps_of_two_columns(self):
        for many in range(9):
            self.assertIs(is_draft(CLOSED, gaps(many)), many <= 6, many)
            self.assertIs(is_draft((CLOSED[0], None, None), gaps(many)), True)
        self.assertIs(is_draft(CLOSED, ((None, None, None),) * 3), True)
        self.assertIs(is_draft(CLOSED, ((None, None, None),) * 3 + ((0, None, 1),) * 5), True)
        self.assertIs(is_draft(CLOSED, ((None, None, None),) * 3 + ((0, None, None),)), False)
        self.assertIs(is_draft(CLOSED, ((None, None, None),) * 3 + ((0, None, 1),) * 4 + ((None, None, 1),)), False)
        self.assertIs(is_draft((None,) * 4, ((None,) * 4,) * 8), True)
        # A column of one value is a closed one.
        self.assertIs(is_draft(((4,),), ((None,),) * 6), True)
        self.assertIs(is_draft(((4,),), ((None,),) * 7), False)

    def test_bent(self):
        for columns, value in [(COLUMNS, value) for value in self.RIGHT] + [(CLOSED, gaps(6))]:
            for bent in bends(value):
                self.assertIs(is_draft(columns, bent), right_draft(columns, bent), bent)
        for seed in range(40):
            columns, _, draft = made(seed, rows=3)
            for bent in bends(draft):
                self.assertIs(is_draft(columns, bent), right_draft(columns, bent), bent)

    def test_any_value(self):
        for value in any_values() + [nested(60, tuple), nested(60, list), nested(60, tuple, None), shared(40)]:
            self.assertIs(is_draft(COLUMNS, value), right_draft(COLUMNS, value), value)
            for more in [(value,), (ROW, value), ((44, value, 1),), ((44, 7, value),), (ROW, (value, 7, 1))]:
                self.assertIs(is_draft(COLUMNS, more), right_draft(COLUMNS, more))
            if not oracle.right_columns(value):
                assert_raises(self, InvalidColumns, is_draft, (value, (ROW,)))
                assert_raises(self, InvalidColumns, is_draft, (value, None))


class FillingOrWar(unittest.TestCase):
    """For every draft exactly one of a filling and a war."""

    def judge(self, columns, rules, draft):
        """Whether there is a filling; asserts that what is returned shows it."""
        table, war = filling(columns, rules, draft), draft_war(columns, rules, draft)
        self.assertIs(table is None, war is not None)
        if war is None:
            self.assertTrue(is_filling(columns, rules, draft, table), (columns, rules, draft, table))
            return True
        self.assertTrue(is_war(columns, rules, draft, war, brisk=True), (columns, rules, draft, war))
        self.assertIs(is_draft_war(columns, rules, draft, war), True)
        with self.assertRaises(AtWar) as caught:
            forced_cells(columns, rules, draft)
        self.assertIs(caught.exception.__class__, AtWar)
        self.assertTrue(is_war(columns, rules, draft, caught.exception.tree, brisk=True))
        return False

    def test_by_hand(self):
        refused = ((((0, 0),), 1, 5), (((0, 1),), 1, 5), (((0, 2),), 1, 5))
        for columns, rules, draft, right in [
                (COLUMNS, RULES, ((44, 7, None),), True), (COLUMNS, RULES, ((44, 7, 0),), False),
                (COLUMNS, RULES, ((None, 7, 0),), True), (COLUMNS, RULES, ((44, 7, None), (1, 7, 0)), True),
                (COLUMNS, RULES, ((44, 7, None), (1, 7, 1)), False), (COLUMNS, RULES, ((44, 7, 1), (None, 7, 1)), True),
                (COLUMNS, RULES, ((44, 7, None), (1, None, 1)), True), (COLUMNS, RULES, (), True),
                # rules that are at war with a row, and so with every draft that has one
                (COLUMNS, NO_ROW, (), True), (COLUMNS, NO_ROW, ((None, None, None),), False),
                (COLUMNS, NO_ROW, ((None, None, None),) * 6, False), (COLUMNS, NO_ROW, ((44, 7, 1),), False),
                # all values of a closed column are refused
                (CLOSED, refused + (((), 1, 6),), ((None, None, None),), False),
                (CLOSED, refused, ((None, 6, None),), False), (CLOSED, refused, ((None, 5, None),), True),
                (CLOSED, refused[:2], ((None, 6, None),), True), (CLOSED, refused, ((None, None, 1),) * 6, True),
                (CLOSED, refused + ((((1, 5),), 2, 1),), ((0, None, 1), (None, None, 3)), False),
                # a column of one value
                (((4,), None), ((((0, 4),), 1, 6),), ((None, 5),), False),
                (((4,), None), ((((0, 4),), 1, 6),), ((None, 6), (4, None)), True),
                # pairs of rows, over other ones, too
                ((None,) * 3, PAIRS, ((1, 2, 3), (1, 2, 3), (4, 2, 3)), True),
                ((None,) * 3, PAIRS, ((1, 2, None), (None, 3, None), (1, None, None)), True),
                ((None,) * 3, PAIRS, ((1, 2, None), (1, 3, None)), False),
                ((None,) * 3, PAIRS, ((1, 2, 5), (2, 3, None), (3, 4, 6)), False),
                ((None,) * 3, ((((0, None),), 1, None), (((1, None),), 2, None)),
                 ((1, None, 5), (1, 8, None), (2, 8, 6)), False),
                ((None,) * 3, ((((0, None),), 1, None), (((1, None),), 2, None)),
                 ((1, None, 5), (1, 8, None), (2, 9, 6)), True),
                # a value that comes over two joins, against one that is there: in either order of the rows
                ((None,) * 4, tuple([(((k, None),), 1, None) for k in (0, 2, 3)]),
                 ((None, 8, None, 9), (1, 5, None, None), (1, None, 2, None), (None, None, 2, 9)), False),
                ((None,) * 4, tuple([(((k, None),), 1, None) for k in (0, 2, 3)]),
                 ((None, None, 2, 9), (1, None, 2, None), (1, 5, None, None), (None, 8, None, 9)), False),
                ((None,) * 4, tuple([(((k, None),), 1, None) for k in (0, 2, 3)]),
                 ((None, None, 2, 9), (1, None, 2, None), (1, 5, None, None), (None, None, None, 9)), True),
                # six pairs of values for the rows, which are all different
                (((0, 1, 2), (0, 1), None), ((((0, None), (1, None)), 2, None),),
                 ((None, 0, 0), (None, 0, 1), (None, 0, 2), (None, 1, 3), (None, 1, 4), (None, 1, 5)), True),
                (((0, 1, 2), (0, 1), None), ((((0, None), (1, None)), 2, None),),
                 ((None, 0, 0), (None, 0, 1), (None, 0, 2), (None, 0, 3), (None, 1, 4), (None, 1, 5)), False)]:
            self.assertIs(self.judge(columns, rules, draft), right, (columns, rules, draft))

    def test_no_rows(self):
        for rules in [(), RULES, NO_ROW]:
            self.assertEqual(filling(COLUMNS, rules, ()), ())
            self.assertIsNone(draft_war(COLUMNS, rules, ()))
            self.assertEqual(forced_cells(COLUMNS, rules, ()), ())

    def test_made(self):
        told = {}
        for seed in range(3000):
            columns, rules, draft = made(seed)
            key = (self.judge(columns, rules, draft), len(draft))
            told[key] = told.get(key, 0) + 1
        for right in (True, False):
            for rows in range(2 - right, 9):
                self.assertGreater(told.get((right, rows), 0), 20, (right, rows))

    def test_against_all_fillings(self):
        told = [0, 0]
        for seed in range(600):
            columns, rules, draft = made(seed, 3, 3 if seed % 2 else 2)
            right = len(all_fillings(columns, rules, draft)) > 0
            self.assertIs(self.judge(columns, rules, draft), right)
            told[right] += 1
        self.assertGreater(min(told), 100)

    def test_chains(self):
        """Equal cells over many rows, whose values are to be found far away."""
        told = [0, 0]
        for seed in range(1500):
            dice = random.Random(seed)
            columns = (None,) * 3 + dice.choice([(None,), ((0, 1),)])
            rules = []
            for _ in range(8):
                column, *given = dice.sample(range(4), dice.choice([2, 2, 3]))
                rules.append((tuple([(place, None) for place in sorted(given)]), column, None))
            rows = [tuple([dice.randrange(2) if dice.random() < 0.4 else None for _ in range(4)]) for _ in range(8)]
            draft = tuple(rows[:dice.randint(3, 8)])
            if right_draft(columns, draft):
                told[self.judge(columns, tuple(rules), draft)] += 1
        self.assertGreater(min(told), 200)

    def test_no_more_than_needed(self):
        """The document does not ask for it, but steps, joins and splits from which no clash comes are left out."""
        rules = RULES + (((), 1, 7), (((1, 7),), 0, 44), (((0, 45),), 1, None))
        for draft in [((44, 7, 0),), ((None, None, None), (44, None, 0)), ((45, 7, None), (45, None, None), (44, 7, 0))]:
            row = len(draft) - 1
            self.assertEqual(draft_war(COLUMNS, rules[:1] + rules[2:3], draft), ("step", 0, row, ("clash",)))
        # No split of the other closed column.
        columns, rules = ((0, 1), None, (0, 1)), ((((2, 0),), 1, 7), (((2, 1),), 1, 6), (((0, 1),), 1, 8))
        for draft in [((None, 8, None),), ((None, None, None), (None, 8, None))]:
            row = len(draft) - 1
            parts = (("step", 0, row, ("clash",)), ("step", 1, row, ("clash",)))
            self.assertEqual(draft_war(columns, rules, draft), ("split", row, 2, parts))

    def test_great_values(self):
        for great in (BIG, 10 ** 60):
            draft = ((great, 7, 1), (None, 7, 1), (great + 1, None, 0), (None, None, None))
            rules = RULES + ((((0, great),), 2, 1), (((2, 0),), 1, great))
            self.assertTrue(self.judge(COLUMNS, rules, draft))
            self.assertEqual(forced_cells(COLUMNS, rules, draft)[:3], ((great, 7, 1), (great, 7, 1), (great + 1, great, 0)))
            # What was returned may be passed again, and greater values come of it.
            table = filling(COLUMNS, rules, draft)
            self.assertEqual(filling(COLUMNS, rules, table), table)
            self.assertTrue(self.judge(COLUMNS, rules, table[:3] + ((None, None, 1),) * 4))
            self.assertFalse(self.judge(COLUMNS, rules, ((great, 7, 0),)))

    def test_equal_arguments(self):
        for seed in range(200):
            for call in (filling, draft_war):
                self.assertTrue(same(call(*made(seed)), call(*made(seed))))

    def test_errors(self):
        wrong = ((44, 7, 2),)
        for call, more in [(filling, ()), (draft_war, ()), (forced_cells, ()), (is_draft_war, (("clash",),))]:
            assert_raises(self, InvalidDraft, call, (COLUMNS, RULES, wrong) + more)
            assert_raises(self, InvalidDraft, call, (COLUMNS, NO_ROW, ((None, None, None),) * 7) + more)
            assert_raises(self, InvalidRules, call, (COLUMNS, RULES * 5, wrong) + more)
            assert_raises(self, InvalidColumns, call, ((), RULES * 5, wrong) + more)


class Forced(unittest.TestCase):
    def test_by_hand(self):
        for columns, rules, draft, right in [
                (COLUMNS, RULES, ((44, 7, None), (None, 7, 1)), ((44, 7, 1), (44, 7, 1))),
                (COLUMNS, RULES, ((44, 7, None), (None, 7, None)), ((44, 7, 1), (None, 7, None))),
                (COLUMNS, RULES, ((1, 7, 1), (None, 7, 1)), ((1, 7, 1), (1, 7, 1))),
                (COLUMNS, RULES, ((None, 7, 1), (None, 7, 1)), ((None, 7, 1), (None, 7, 1))),
                (COLUMNS, (), ((None, None, None),) * 6, ((None, None, None),) * 6),
                (((4,), None), (), ((None, None),), ((4, None),)),
                # by a split alone
                (((0, 1), None), ((((0, 0),), 1, 5), (((0, 1),), 1, 5)), ((None, None),), ((None, 5),)),
                (((0, 1), None), ((((0, 0),), 1, 5), (((0, 1),), 1, 6)), ((None, None),), ((None, None),)),
                (((0, 1), None), ((((0, 0),), 1, 5), (((0, 1),), 1, 6)), ((None, 6),), ((1, 6),)),
                (((0, 1), None), ((((0, 0),), 1, 5), (((0, 1),), 1, 6)), ((None, 6), (None, None)), ((1, 6), (None, None))),
                # what is equal to a value that is forced
                ((None, (0, 1)), (((), 1, None), (((1, 1),), 0, 8)), ((None, None), (9, None)), ((None, 0), (9, 0)))]:
            told = forced_cells(columns, rules, draft)
            self.assertTrue(same(told, right), (draft, told))

    def test_against_all_fillings(self):
        told, found = 0, 0
        for seed in range(700):
            columns, rules, draft = made(seed, 3, 3 if seed % 2 else 2, 6)
            fillings = all_fillings(columns, rules, draft)
            if fillings:
                right = forced(columns, fillings)
                self.assertTrue(same(forced_cells(columns, rules, draft), right), (columns, rules, draft))
                told += 1
                found += right != draft
        self.assertGreater(told, 300)
        self.assertGreater(found, 60)

    def test_of_many_rows(self):
        """A cell is forced to a value if it can have no other one: each draft with another one in it is at war."""
        found = {}
        for seed in range(250):
            columns, rules, draft = made(seed)
            if filling(columns, rules, draft) is None:
                continue
            told = forced_cells(columns, rules, draft)
            for i, row in enumerate(draft):
                for j, entry in enumerate(row):
                    values = [entry] if entry is not None else named_values(columns, rules, draft, j, 2)
                    left = [one for one in values if filling(columns, rules, with_entry(draft, (i, j), one)) is not None]
                    self.assertTrue(same(told[i][j], left[0] if len(left) == 1 else None))
                    if entry is None:
                        found[len(left) == 1] = found.get(len(left) == 1, 0) + 1
        self.assertGreater(min(found[True], found[False]), 100)


class IsDraftWar(unittest.TestCase):
    def judge(self, columns, rules, draft, value):
        right = is_war(columns, rules, draft, value)
        self.assertIs(is_draft_war(columns, rules, draft, value), right, (columns, rules, draft, value))
        return right

    def test_by_hand(self):
        clash, columns = ("clash",), (None, (0, 1))
        rules = ((((0, None),), 1, None), (((0, 5),), 1, 0), (((1, 0),), 0, 6), ((), 1, 0))
        twice = ((5, 0), (5, 1))
        for draft, value, right in [
                (twice, ("join", 0, 0, 1, clash), True), (twice, ("join", 0, 1, 0, clash), False),
                (twice, ("join", 0, 0, 0, clash), False), (twice, ("join", 0, 0, 2, clash), False),
                (twice, ("join", 0, False, 1, clash), False), (twice, ("join", 0, 0, True, clash), False),
                (twice, ("join", False, 0, 1, clash), False), (twice, ("join", 1, 0, 1, clash), False),
                (twice, ("join", -4, 0, 1, clash), False), (twice, ("join", 0, -2, 1, clash), False),
                (twice, ("join", 0, clash), False), (twice, ("join", 0, 0, 1, ("goal",)), False),
                (twice, ("step", 1, 1, clash), True), (twice, ("step", 1, 0, ("step", 1, 1, clash)), True),
                (twice, ("step", 1, 1, ("step", 1, 1, clash)), False), (twice, clash, False),
                (twice, ("step", 1, True, clash), False), (twice, ("step", True, 1, clash), False),
                (twice, ("step", 1, 2, clash), False), (twice, ("step", 1, -1, clash), False),
                (twice, ("step", 0, 1, clash), False), (twice, ["step", 1, 1, clash], False),
                (twice, ("step", 1, 1, ["clash"]), False), (twice, ("step", 1, 1, "clash"), False),
                # steps, joins and splits that make nothing known
                (twice, ("step", 1, 0, ("step", 1, 0, ("step", 1, 1, clash))), True),
                (((5, 1), (5, 1), (5, 0)), ("join", 0, 0, 1, ("join", 0, 1, 2, clash)), True),
                (twice, ("split", 0, 1, (("step", 1, 1, clash), clash)), True),
                (twice, ("split", 0, 1, (clash, ("step", 1, 1, clash))), False),
                (twice, ("split", 0, 1, (("step", 1, 1, clash),)), False),
                (twice, ("split", 0, 1, (("step", 1, 1, clash), clash, clash)), False),
                (twice, ("split", 0, 1, [("step", 1, 1, clash), clash]), False),
                (twice, ("split", 0, 0, (clash, clash)), False), (twice, ("split", 2, 1, (clash, clash)), False),
                (twice, ("split", False, 1, (("step", 1, 1, clash), clash)), False),
                (twice, ("split", 0, True, (("step", 1, 1, clash), clash)), False),
                (((5, None),), ("split", 0, 1, (("step", 2, 0, clash), ("step", 1, 0, clash))), True),
                (((5, None),), ("split", 0, 1, (("step", 1, 0, clash), ("step", 1, 0, clash))), False),
                (((5, None),), ("step", 1, 0, ("step", 2, 0, clash)), True), ((), clash, False), ((), ("goal",), False),
                ((), ("step", 3, 0, clash), False)]:
            self.assertIs(self.judge(columns, rules, draft, value), right, (draft, value))

    def wars(self, seeds, most=4, rows=8):
        for seed in seeds:
            columns, rules, draft = made(seed, most, rows)
            war = draft_war(columns, rules, draft)
            if war is not None:
                yield seed, columns, rules, draft, war

    def test_bent(self):
        told = [0, 0]
        for _, columns, rules, draft, war in self.wars(range(300), 3, 4):
            if len(repr(war)) < 200:
                for bent in bends(war):
                    told[self.judge(columns, rules, draft, bent)] += 1
        self.assertGreater(told[False], 10000)

    def test_near_drafts_and_other_rules(self):
        told = [0, 0]
        for seed, columns, rules, draft, war in self.wars(range(500)):
            dice = random.Random(seed)
            for _ in range(6):
                i, j = dice.randrange(len(draft)), dice.randrange(len(columns))
                near = with_entry(draft, (i, j), dice.choice([None, made_value(dice, columns, j)]))
                if right_draft(columns, near):
                    told[self.judge(columns, rules, near, war)] += 1
            for near in [draft[:-1], draft[1:], draft[::-1], (draft + draft[:1])[:8]]:
                if right_draft(columns, near):
                    told[self.judge(columns, rules, near, war)] += 1
            for other in [rules[:-1], rules[1:], rules[::-1], rules[1:] + rules[:1], (rules + rules[:1])[:8]]:
                told[self.judge(columns, other, draft, war)] += 1
        self.assertGreater(min(told), 500)

    def test_wild(self):
        told = {}
        for seed in range(4000):
            dice = random.Random(seed)
            columns, rules, draft = made(seed, 3, 3)
            tree = wild_draft_tree(dice, rules, case_of_draft(columns, draft), lambda case: False, dice.randint(0, 7))
            right = self.judge(columns, rules, draft, tree)
            key = (right, right and not is_war(columns, rules, draft, tree, brisk=True))
            told[key] = told.get(key, 0) + 1
        self.assertGreater(min(told[(False, False)], told[(True, False)], told[(True, True)]), 100)

    def test_any_value(self):
        draft = ((44, 7, 0), (None, 7, None))
        deep = [nested(60, tuple), nested(60, list), nested(160, tuple, ("clash",)), shared(40)]
        for value in any_values() + deep:
            for tree in [value, ("step", 0, 0, value), ("step", value, 0, ("clash",)), ("step", 0, value, ("clash",)),
                         ("split", 1, 2, value), ("split", 1, 2, (value, value)), ("split", value, 2, (("clash",),) * 2),
                         ("join", 1, 0, value, ("clash",)), ("join", 1, value, 1, ("clash",)), (value, 0, 0, ("clash",)),
                         ("join", value, 0, 1, ("clash",)), (value,)]:
                self.judge(COLUMNS, RULES, draft, tree)

    def test_with_goal(self):
        for seed in range(100):
            columns, rules, draft = made(seed)
            self.assertIs(is_draft_war(columns, rules, draft, ("goal",)), False)


class Time(unittest.TestCase):
    """Each call at the limits of the document."""

    def made(self, seed):
        dice = random.Random(seed)
        columns = [None] * 4
        for place in dice.sample(range(4), 2):
            columns[place] = (0, 1, 2)
        columns = tuple(columns)
        closed = [(i, j) for i in range(8) for j in range(4) if columns[j] is not None]
        empty = dice.choice([closed[:6], dice.sample(closed, 6)])
        rows = [tuple([None if columns[j] is None or (i, j) in empty else dice.randrange(3) for j in range(4)])
                for i in range(8)]
        rules = made_rules(dice, columns, 8)
        while len(rules) < 8:
            rules += made_rules(dice, columns, 8 - len(rules))
        return columns, rules, tuple(rows)

    def timed(self, call, *arguments):
        start = time.monotonic()
        told = call(*arguments)
        self.assertLess(time.monotonic() - start, 3)
        return told

    def judge(self, columns, rules, draft):
        war = self.timed(draft_war, columns, rules, draft)
        table = self.timed(filling, columns, rules, draft)
        if war is None:
            self.assertTrue(is_filling(columns, rules, draft, table))
            self.timed(forced_cells, columns, rules, draft)
        else:
            self.assertTrue(self.timed(is_draft_war, columns, rules, draft, war))
        return war is not None

    def test_made(self):
        told = [self.judge(*self.made(seed)) for seed in range(300)]
        self.assertGreater(told.count(False), 50)
        self.assertGreater(told.count(True), 50)

    def test_all_cases_are_needed(self):
        # The rows differ in column 2, so that no two have the same values of both closed columns; two pairs of
        # values are refused. So there are seven pairs for the eight rows.
        columns = ((0, 1, 2), (0, 1, 2), None, None)
        rules = ((((0, None), (1, None)), 2, None), (((0, 2), (1, 2)), 2, 99), (((0, 2), (1, 1)), 2, 99))
        pairs = [(0, 0), (0, 1), (0, 2), (1, 0), (1, 1), (None, None), (None, None), (None, None)]
        draft = tuple([pair + (k, None) for k, pair in enumerate(pairs)])
        for more in [(), rules[:1] * 5, ((((2, None),), 3, None), ((), 3, 5), (((0, None),), 3, None)) + rules[1:]]:
            self.assertTrue(self.judge(columns, rules + more, draft))
            for k in range(8):
                self.assertFalse(self.judge(columns, rules + more, draft[:k] + draft[k + 1:]))


if __name__ == "__main__":
    unittest.main()
