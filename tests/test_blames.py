"""Points 3 and 25: small tables, which of their cells can stand together, blames and corrections."""

import random
import time
import unittest

from whererules.blames import blames, can_stand, least_corrections
from whererules.breaks import breaks
from whererules.covers import cover
from whererules.drafts import filling
from whererules.errors import InvalidCells, InvalidColumns, InvalidRules, InvalidTable
from whererules.following import follows
from whererules.peace import peaceful_row

import oracle
from oracle_drafts import (
    all_cells, blames_by, corrections_by, draft_of, is_filling, meeting, right_small, right_some, standing)
from samples import BIG, any_values, bends, made_columns, made_rule, made_rules, made_small, nested, same, shared
from wrong import assert_raises

COLUMNS = (None, None, (0, 1))
RULES = ((((0, 44),), 2, 1), (((1, None), (2, 1)), 0, None))
SMALL = ((44, 7, 0), (44, 7, 1), (1, 7, 1))
NO_ROW = (((), 2, 0), ((), 2, 1))
OPEN = (None, None, None)
TWICE = ((((0, None),), 2, None), (((1, None),), 2, None))


def made(seed, cells=9, many=8):
    """Columns, rules and a small table."""
    dice = random.Random(seed)
    columns = made_columns(seed)
    return columns, made_rules(dice, columns, many), made_small(dice, columns, cells)


class SmallTables(unittest.TestCase):
    def judge(self, columns, rules, small):
        """Compares with all sets of cells, each asked by itself; returns the blames and the least corrections."""
        stands = standing(columns, rules, small)
        for some in stands:
            self.assertIs(can_stand(columns, rules, small, some), stands[some], (columns, rules, small, some))
        blamed, corrected = blames(columns, rules, small), least_corrections(columns, rules, small)
        self.assertTrue(same(blamed, blames_by(stands)), (columns, rules, small, blamed))
        self.assertTrue(same(corrected, corrections_by(small, stands)), (columns, rules, small, corrected))
        self.meet(small, blamed, corrected)
        self.assertEqual(corrected == [()], oracle.all_hold(rules, small))
        self.assertEqual(blamed == [], oracle.all_hold(rules, small))
        return blamed, corrected

    def meet(self, small, blamed, corrected):
        """Each of both lists is that of the least sets that meet all sets of the other one."""
        self.assertTrue(all(set(one) & set(other) for one in blamed for other in corrected))
        self.assertEqual(meeting(small, blamed), corrected)
        self.assertEqual(meeting(small, corrected), blamed)

    def test_by_hand(self):
        for columns, rules, small, blamed, corrected in [
                (COLUMNS, RULES, (), [], [()]), (COLUMNS, NO_ROW, (), [], [()]), (COLUMNS, (), SMALL, [], [()]),
                (COLUMNS, RULES, ((44, 7, 1),), [], [()]), (COLUMNS, NO_ROW, ((44, 7, 1),), [()], []),
                (COLUMNS, NO_ROW, SMALL, [()], []),
                (COLUMNS, RULES, ((44, 7, 0),), [((0, 0), (0, 2))], [((0, 0),), ((0, 2),)]),
                (COLUMNS, RULES, ((44, 7, 1), (1, 7, 1)), [((0, 0), (0, 1), (1, 0), (1, 1), (1, 2))],
                 [((0, 0),), ((0, 1),), ((1, 0),), ((1, 1),), ((1, 2),)]),
                ((None, None), ((((0, None),), 1, None),), ((5, 1), (5, 1), (5, 2)),
                 [((0, 0), (0, 1), (2, 0), (2, 1)), ((1, 0), (1, 1), (2, 0), (2, 1))],
                 [((0, 0), (1, 0)), ((0, 0), (1, 1)), ((0, 1), (1, 0)), ((0, 1), (1, 1)), ((2, 0),), ((2, 1),)]),
                # a blame with cells of a row that no break has
                (OPEN, TWICE, ((5, 1, 7), (5, 2, 7), (6, 2, 8)),
                 [((0, 0), (0, 2), (1, 0), (1, 1), (2, 1), (2, 2)), ((1, 1), (1, 2), (2, 1), (2, 2))],
                 [((0, 0), (1, 2)), ((0, 2), (1, 2)), ((1, 0), (1, 2)), ((1, 1),), ((2, 1),), ((2, 2),)]),
                # the rules refuse all values of the closed column but one
                (((0, 1, 2), None), ((((0, 0),), 1, 5), (((0, 1),), 1, 5), ((), 1, 6)), ((0, 5),),
                 [((0, 0),), ((0, 1),)], [((0, 0), (0, 1))])]:
            told = self.judge(columns, rules, small)
            self.assertTrue(same(told, (blamed, corrected)), (rules, small, told))

    def test_made(self):
        told = {}
        for seed in range(800):
            columns, rules, small = made(seed, 9 if seed % 20 == 0 else 6)
            blamed, corrected = self.judge(columns, rules, small)
            key = (len(small), "war" if blamed == [()] else "kept" if blamed == [] else "broken")
            told[key] = told.get(key, 0) + 1
        for rows in (1, 2, 3):
            for kind in ("war", "kept", "broken"):
                self.assertGreater(told.get((rows, kind), 0), 4, (rows, kind))
        self.assertGreater(told[(0, "kept")], 15)

    def test_of_nine_cells(self):
        """Each set of cells by a filling and a war of its own, which the tests of drafts judge."""
        for seed in range(40):
            dice = random.Random(seed)
            columns = made_columns(seed, 3)
            columns += (None,) * (3 - len(columns))
            rules = made_rules(dice, columns, 8)
            small = tuple([tuple([dice.choice(column or (0, 1, 2)) for column in columns]) for _ in range(3)])
            stands = {}
            for some in oracle.subsets(all_cells(small)):
                table = filling(columns, rules, draft_of(small, some))
                stands[some] = table is not None
                self.assertTrue(table is None or is_filling(columns, rules, draft_of(small, some), table))
                self.assertIs(can_stand(columns, rules, small, some), stands[some])
            blamed, corrected = blames(columns, rules, small), least_corrections(columns, rules, small)
            self.assertTrue(same((blamed, corrected), (blames_by(stands), corrections_by(small, stands))))
            self.meet(small, blamed, corrected)

    def test_what_follows_changes_nothing(self):
        """Point 3, 11 and 14: covers, and rules that follow, hold in the same tables."""
        changed = 0
        for seed in range(300):
            columns, rules, small = made(seed, many=6)
            right = (blames(columns, rules, small), least_corrections(columns, rules, small))
            rule = made_rule(random.Random(seed + 1), columns)
            if follows(columns, rules, rule):
                self.assertEqual(right, (blames(columns, rules + (rule,), small),
                                         least_corrections(columns, rules + (rule,), small)))
            if peaceful_row(columns, rules) is not None:
                other = cover(columns, rules)
                self.assertEqual(right, (blames(columns, other, small), least_corrections(columns, other, small)))
                changed += other != rules and right[0] != []
        self.assertGreater(changed, 30)

    def test_breaks(self):
        """Each break holds cells of a blame, and there is a blame just if there is a break."""
        for seed in range(300):
            columns, rules, small = made(seed)
            blamed = blames(columns, rules, small)
            self.assertEqual(blamed == [], breaks(columns, rules, small) == [])
            for told in breaks(columns, rules, small):
                some = tuple([cell for cell in all_cells(small) if cell[0] in told[1:]])
                self.assertTrue(any(set(one) <= set(some) for one in blamed))


class Arguments(unittest.TestCase):
    CALLS = [(can_stand, ((),)), (blames, ()), (least_corrections, ())]

    def test_small(self):
        for columns, value, right in [
                (COLUMNS, SMALL, True), (COLUMNS, SMALL + SMALL[:1], False), (COLUMNS, ((44, 7, 2),), False),
                ((None,), ((1,), (1,), (1,)), True), ((None,), ((1,),) * 4, False), ((None,) * 2, ((1, 2),) * 3, True),
                ((None,) * 2, ((1, 2),) * 4, False), ((None,) * 4, ((1,) * 4,) * 2, True),
                ((None,) * 4, ((1,) * 4,) * 3, False), ((None,) * 4, (), True), ((None,), ((1,),) * 9, False),
                (OPEN, ((0, BIG, 10 ** 50),), True)]:
            self.assertIs(right_small(columns, value), right)
            for call, more in self.CALLS:
                if right:
                    call(columns, (), value, *more)
                else:
                    assert_raises(self, InvalidTable, call, (columns, (), value) + more)
        for value in any_values() + list(bends(SMALL)) + [nested(60, tuple), nested(60, list), shared(40)]:
            if not right_small(COLUMNS, value):
                for call, more in self.CALLS:
                    assert_raises(self, InvalidTable, call, (COLUMNS, RULES, value) + more)
                    assert_raises(self, InvalidRules, call, (COLUMNS, RULES * 5, value) + more)
                    assert_raises(self, InvalidColumns, call, ((), RULES * 5, value) + more)

    def test_some(self):
        right = [(), ((0, 0),), ((0, 2), (1, 0), (2, 2)), all_cells(SMALL)]
        wrong = [
            [], [(0, 0)], ([0, 0],), ((0, 0), (0, 0)), ((0, 1), (0, 0)), ((1, 0), (0, 2)), ((3, 0),), ((0, 3),),
            ((-1, 0),), ((0, -1),), ((True, 0),), ((0, True),), ((0, 0), (False, 1)), ((0, 0, 0),), ((0,),), (0, 0), None,
            ((0, None),), (("0", 0),), 0, "", (((0, 0),),), all_cells(SMALL) + ((2, 2),), ((0, 0), None)]
        bent = list(bends(((0, 1), (1, 0), (2, 2))))
        for value in right + wrong + bent + any_values() + [nested(60, tuple), nested(60, list), shared(40)]:
            if right_some(SMALL, value):
                self.assertIn(can_stand(COLUMNS, RULES, SMALL, value), (True, False))
            else:
                self.assertNotIn(value, right)
                assert_raises(self, InvalidCells, can_stand, (COLUMNS, RULES, SMALL, value))
                assert_raises(self, InvalidTable, can_stand, (COLUMNS, RULES, SMALL * 2, value))
                assert_raises(self, InvalidCells, can_stand, (COLUMNS, RULES, (), value if value != () else None))
        # The cells are those of the table that is given, not of all that might be.
        assert_raises(self, InvalidCells, can_stand, (COLUMNS, RULES, SMALL[:2], ((2, 0),)))
        assert_raises(self, InvalidCells, can_stand, (COLUMNS, RULES, (), ((0, 0),)))
        self.assertIs(can_stand(COLUMNS, NO_ROW, (), ()), True)
        self.assertIs(can_stand(COLUMNS, NO_ROW, SMALL, ()), False)

    def test_lists_are_new(self):
        for call in (blames, least_corrections):
            told = call(COLUMNS, RULES, SMALL)
            self.assertIs(told.__class__, list)
            told.append("more")
            self.assertNotIn("more", call(COLUMNS, RULES, SMALL))


class Time(unittest.TestCase):
    def test_limits(self):
        for seed in range(100):
            dice = random.Random(seed)
            columns = [(0, 1, 2), (0, 1, 2), None]
            dice.shuffle(columns)
            columns = tuple(columns)
            rules = tuple([made_rule(dice, columns) for _ in range(8)])
            small = tuple([tuple([dice.randrange(3) for _ in range(3)]) for _ in range(3)])
            for call in (blames, least_corrections):
                start = time.monotonic()
                call(columns, rules, small)
                self.assertLess(time.monotonic() - start, 3)

    def test_many_blames(self):
        # All values are apart, and all columns are to be equal to the others: four rules for three columns.
        rules = (((), 0, None), ((), 1, None), ((), 2, None))
        start = time.monotonic()
        blamed = blames(OPEN, rules, ((1, 1, 1), (2, 2, 2), (3, 3, 3)))
        self.assertEqual(len(blamed), 9)
        self.assertEqual(len(least_corrections(OPEN, rules, ((1, 1, 1), (2, 2, 2), (3, 3, 3)))), 27)
        self.assertLess(time.monotonic() - start, 3)


if __name__ == "__main__":
    unittest.main()
