"""Point 31: records, how they are made, and the judge."""

import random
import time
import unittest

from whererules.blames import blames, least_corrections
from whererules.checker import check
from whererules.drafts import draft_war, filling, forced_cells
from whererules.errors import (
    AtWar, InvalidCells, InvalidColumns, InvalidRules, InvalidTable, NotACertificate)
from whererules.fates import fates
from whererules.faults import InvalidCosts, InvalidDraft, NotARecord
from whererules.mends import mend, price, price_tree
from whererules.records import (
    blame_record, correction_record, fate_record, forced_record, judge, lists_record)

import oracle
import oracle_checker
from oracle_checker import first_wrong
from oracle_drafts import all_cells, draft_of, is_force, is_war, right_cell, right_some
from oracle_mends import price_tree_judged
from oracle_records import FORMS, LENGTHS, conditions_of
from samples import (
    BIG, any_values, bends, left_alone, made_columns, made_draft, made_rule, made_rules, made_small, made_some, nested, renewed,
    same, shared)
from wrong import WRONG, assert_raises

COLUMNS = (None, None, (0, 1))
RULES = ((((0, 44),), 2, 1), (((1, None), (2, 1)), 0, None))
START = (COLUMNS, RULES)
ONE = ((44, 7, 0),)
COSTS = (1, 1, 5)
WAR = ("step", 0, 0, ("clash",))
BOTH = ((0, 0), (0, 2))
TREE = (BOTH, WAR, ((), ()))
DRAFT = ((44, 7, None), (None, 7, 1))
FULL = ((44, 7, 1), (44, 7, 1))
FORCE = ("step", 0, 0, ("goal",))
MENDED, OTHER = ((45, 7, 0),), ((44, 7, 1),)
EVEN = (5, 1, 5)
DEEP = [nested(60, tuple), nested(60, list), nested(160, tuple, WAR), shared(40)]

RIGHT = [
    ("filled",) + START + (DRAFT, FULL), ("filled",) + START + ((), ()), ("unfilled",) + START + (ONE, WAR),
    ("forced",) + START + (DRAFT, (0, 2), FULL, FORCE), ("forced",) + START + (DRAFT, (0, 0), FULL, ("goal",)),
    ("forced",) + START + (DRAFT, (1, 0), FULL, ("step", 0, 0, ("join", 1, 0, 1, ("goal",)))),
    ("unforced",) + START + (((None, 7, 1),), (0, 0), ((1, 7, 1),), ((2, 7, 1),)),
    ("blame",) + START + (ONE, BOTH, WAR, (((3, 4, 0),), ((44, 4, 1),))),
    ("correction",) + START + (ONE, ((0, 0),), MENDED, ((BOTH, WAR),)),
    ("correction",) + START + (OTHER, (), OTHER, ()),
    ("lists",) + START + (ONE, ((BOTH, WAR),), ((((0, 2),), OTHER), (((0, 0),), MENDED))),
    ("lists",) + START + (OTHER, (), (((), OTHER),)),
    ("mend",) + START + (ONE, COSTS, (), MENDED, TREE), ("mend",) + START + (OTHER, COSTS, (), OTHER, ()),
    ("mend",) + START + (ONE, COSTS, ((0, 0),), OTHER, (BOTH, WAR, (None, ()))),
    ("held",) + START + (ONE, BOTH, WAR), ("always",) + START + (ONE, COSTS, (), (0, 0), MENDED, (BOTH, WAR, (None, ()))),
    ("never",) + START + (ONE, COSTS, (), (0, 1), MENDED, TREE), ("never",) + START + (ONE, COSTS, (), (0, 2), MENDED, ()),
    ("sometimes",) + START + (ONE, EVEN, (), (0, 0), MENDED, OTHER, TREE)]

# A record and the first of its conditions that does not hold.
WRONG_ONES = [
    (("filled",) + START + (DRAFT + ((None, 7),), FULL), 0), (("filled",) + START + (None, None), 0),
    (("filled",) + START + (DRAFT, FULL[:1]), 1), (("filled",) + START + (DRAFT, ((44, 7, 1), (45, 7, 1))), 1),
    (("filled",) + START + (DRAFT, ((44, 8, 1), (44, 7, 1))), 1), (("filled",) + START + (DRAFT, list(FULL)), 1),
    (("filled",) + START + (((None, 7, None),), ((1, 7, True),)), 1), (("filled",) + START + ((), ((1, 2, 0),)), 1),
    (("unfilled",) + START + (list(ONE), WAR), 0), (("unfilled",) + START + (DRAFT, WAR), 1),
    (("unfilled",) + START + (ONE, ("clash",)), 1), (("unfilled",) + START + (ONE, ("goal",)), 1),
    (("forced",) + START + (((44, 7, 2),), (0, 2), FULL, FORCE), 0), (("forced",) + START + (DRAFT, (2, 0), FULL, FORCE), 1),
    (("forced",) + START + (DRAFT, (0, 3), FULL, FORCE), 1), (("forced",) + START + (DRAFT, (0, True), FULL, FORCE), 1),
    (("forced",) + START + (DRAFT, [0, 2], FULL, FORCE), 1), (("forced",) + START + ((), (0, 0), (), FORCE), 1),
    (("forced",) + START + (DRAFT, (0, 2), ((44, 7, 0), (44, 7, 1)), FORCE), 2),
    (("forced",) + START + (DRAFT, (0, 2), None, FORCE), 2), (("forced",) + START + (DRAFT, (0, 2), FULL, ("goal",)), 3),
    (("forced",) + START + (DRAFT, (1, 0), FULL, FORCE), 3),
    (("forced",) + START + (DRAFT, (1, 0), FULL, ("step", 0, 0, ("join", 1, ("goal",)))), 3),
    (("forced",) + START + (((None, 7, 0),), (0, 0), ((1, 7, 0),), ("goal",)), 3),
    (("unforced",) + START + (((True, 7, 1),), (0, 0), ((1, 7, 1),), ((2, 7, 1),)), 0),
    (("unforced",) + START + (((None, 7, 1),), (0, -1), ((1, 7, 1),), ((2, 7, 1),)), 1),
    (("unforced",) + START + (((None, 7, 1),), (0, 0), ((1, 8, 1),), ((2, 7, 1),)), 2),
    (("unforced",) + START + (((None, 7, 1),), (0, 0), ((1, 7, 1),), ((2, 8, 1),)), 3),
    (("unforced",) + START + (((None, 7, 1),), (0, 0), ((1, 7, 1),), ((1, 7, 1),)), 4),
    (("unforced",) + START + (((None, 7, 1),), (0, 1), ((1, 7, 1),), ((2, 7, 1),)), 4),
    (("blame",) + START + (ONE * 4, BOTH, WAR, ()), 0), (("blame",) + START + (DRAFT, BOTH, WAR, ()), 0),
    (("blame",) + START + (ONE, BOTH[::-1], WAR, ()), 1), (("blame",) + START + (ONE, ((0, 0), (1, 2)), WAR, ()), 1),
    (("blame",) + START + (ONE, BOTH[:1], WAR, ()), 2), (("blame",) + START + (ONE, BOTH, ("clash",), ()), 2),
    (("blame",) + START + (ONE, BOTH, WAR, ()), 3), (("blame",) + START + (ONE, BOTH, WAR, (((3, 4, 0),),)), 3),
    (("blame",) + START + (ONE, BOTH, WAR, (((44, 4, 1),), ((3, 4, 0),))), 3),
    (("blame",) + START + (ONE, BOTH, WAR, [((3, 4, 0),), ((44, 4, 1),)]), 3),
    # a set that holds a blame
    (("blame",) + START + (ONE, all_cells(ONE), WAR, (((3, 7, 0),), ((3, 7, 0),), ((44, 7, 1),))), 3),
    (("correction",) + START + (None, ((0, 0),), MENDED, ((BOTH, WAR),)), 0),
    (("correction",) + START + (ONE, ((0, 0), (0, 0)), MENDED, ((BOTH, WAR),)), 1),
    (("correction",) + START + (ONE, ((0, 0),), OTHER, ((BOTH, WAR),)), 2),
    (("correction",) + START + (ONE, ((0, 1),), ((44, 9, 0),), ((BOTH, WAR),)), 2),
    (("correction",) + START + (ONE, ((0, 0),), ((45, 7),), ((BOTH, WAR),)), 2),
    (("correction",) + START + (ONE, ((0, 0),), MENDED, ()), 3), (("correction",) + START + (ONE, ((0, 0),), MENDED, None), 3),
    (("correction",) + START + (ONE, ((0, 0),), MENDED, [(BOTH, WAR)]), 3),
    (("correction",) + START + (ONE, ((0, 0),), MENDED, ([BOTH, WAR],)), 3),
    (("correction",) + START + (ONE, ((0, 0),), MENDED, ((BOTH[1:], WAR),)), 3),
    (("correction",) + START + (ONE, ((0, 0),), MENDED, ((BOTH, ("clash",)),)), 3),
    # no least one: both cells are in the blame
    (("correction",) + START + (ONE, BOTH, MENDED, ((BOTH, WAR), (BOTH, WAR))), 3),
    (("correction",) + START + (ONE, BOTH[:1] + ((0, 1),), MENDED, ((BOTH, WAR), (BOTH, WAR))), 3),
    (("lists",) + START + (ONE * 4, (), ()), 0), (("lists",) + START + (ONE, [(BOTH, WAR)], ()), 1),
    (("lists",) + START + (ONE, ((BOTH, ("clash",)),), ()), 1), (("lists",) + START + (ONE, ((BOTH[::-1], WAR),), ()), 1),
    (("lists",) + START + (ONE, ((BOTH, WAR, 0),), ()), 1), (("lists",) + START + (ONE, ((BOTH[:1], WAR),), None), 1),
    (("lists",) + START + (ONE, ((BOTH, WAR),), None), 2), (("lists",) + START + (ONE, ((BOTH, WAR),), (((0, 2), OTHER),)), 2),
    (("lists",) + START + (ONE, ((BOTH, WAR),), ((((0, 0),), OTHER),)), 2),
    (("lists",) + START + (ONE, ((BOTH, WAR), (BOTH, WAR)), ((((0, 2),), OTHER), (((0, 0),), MENDED))), 3),
    (("lists",) + START + (ONE, ((BOTH, WAR), (all_cells(ONE), WAR)), ((((0, 2),), OTHER), (((0, 0),), MENDED))), 3),
    (("lists",) + START + (ONE, ((all_cells(ONE), WAR), (BOTH, WAR)), ((((0, 2),), OTHER), (((0, 0),), MENDED))), 3),
    (("lists",) + START + (ONE, ((BOTH, WAR),), ((((0, 2),), OTHER), (((0, 1), (0, 2)), OTHER))), 3),
    (("lists",) + START + (ONE, ((BOTH, WAR),), ((((0, 1), (0, 2)), OTHER), (((0, 2),), OTHER))), 3),
    (("lists",) + START + (ONE, ((BOTH, WAR),), ((((0, 2),), OTHER),)), 4),
    (("lists",) + START + (ONE, (), ((((0, 2),), OTHER), (((0, 0),), MENDED))), 4), (("lists",) + START + (ONE, (), ()), 4),
    (("lists",) + START + (ONE, ((all_cells(ONE), WAR),), ((((0, 2),), OTHER), (((0, 0),), MENDED))), 4),
    (("mend",) + START + (((44, 7, True),), COSTS, (), MENDED, TREE), 0), (("mend",) + START + (ONE, COSTS[:2], (), MENDED, TREE), 1),
    (("mend",) + START + (ONE, (1, 1, 10), (), MENDED, TREE), 1), (("mend",) + START + (ONE, COSTS, ((0, 3),), MENDED, TREE), 2),
    (("mend",) + START + (ONE, COSTS, ((0, 0),), MENDED, TREE), 3), (("mend",) + START + (ONE, COSTS, (), ONE, TREE), 3),
    (("mend",) + START + (ONE, COSTS, (), OTHER, TREE), 4), (("mend",) + START + (ONE, COSTS, (), ((45, 8, 0),), TREE), 4),
    (("mend",) + START + (ONE, COSTS, (), MENDED, ()), 4), (("mend",) + START + (ONE, COSTS, (), MENDED, (BOTH, WAR, (None, ()))), 4),
    (("held",) + START + (ONE * 5, BOTH, WAR), 0), (("held",) + START + (ONE, [], WAR), 1), (("held",) + START + (ONE, BOTH[:1], WAR), 2),
    (("held",) + START + (ONE, BOTH, ("clash",)), 2), (("held",) + START + (OTHER, BOTH, WAR), 2),
    (("always",) + START + (ONE[0], COSTS, (), (0, 0), MENDED, TREE), 0), (("always",) + START + (ONE, (0, 1, 1), (), (0, 0), MENDED, TREE), 1),
    (("always",) + START + (ONE, COSTS, None, (0, 0), MENDED, TREE), 2), (("always",) + START + (ONE, COSTS, (), (1, 0), MENDED, TREE), 3),
    (("always",) + START + (ONE, COSTS, ((0, 0),), (0, 0), OTHER, TREE), 3), (("always",) + START + (ONE, COSTS, (), None, MENDED, TREE), 3),
    (("always",) + START + (ONE, COSTS, (), (0, 0), ONE, (BOTH, WAR, (None, ()))), 4),
    (("always",) + START + (ONE, COSTS, (), (0, 0), MENDED, TREE), 5), (("always",) + START + (ONE, EVEN, (), (0, 0), MENDED, (BOTH, WAR, (None, ()))), 5),
    (("always",) + START + (ONE, COSTS, (), (0, 2), MENDED, (BOTH, WAR, ((), None))), 5),
    (("always",) + START + (ONE, COSTS, (), (0, 0), OTHER, (BOTH, WAR, (None, ()))), 5),
    (("never",) + START + (((44, 7),), COSTS, (), (0, 1), MENDED, TREE), 0), (("never",) + START + (ONE, list(COSTS), (), (0, 1), MENDED, TREE), 1),
    (("never",) + START + (ONE, COSTS, (BOTH,), (0, 1), MENDED, TREE), 2), (("never",) + START + (ONE, COSTS, (), (0, -1), MENDED, TREE), 3),
    (("never",) + START + (ONE, COSTS, ((0, 1),), (0, 1), MENDED, TREE), 3), (("never",) + START + (ONE, COSTS, (), (0, 1), None, TREE), 4),
    (("never",) + START + (ONE, COSTS, (), (0, 0), MENDED, TREE), 5), (("never",) + START + (ONE, COSTS, (), (0, 1), MENDED, ()), 5),
    (("never",) + START + (ONE, EVEN, (), (0, 2), MENDED, TREE), 5), (("never",) + START + (ONE, COSTS, (), (0, 1), OTHER, TREE), 5),
    (("sometimes",) + START + (0, EVEN, (), (0, 0), MENDED, OTHER, TREE), 0), (("sometimes",) + START + (ONE, 0, (), (0, 0), MENDED, OTHER, TREE), 1),
    (("sometimes",) + START + (ONE, EVEN, 0, (0, 0), MENDED, OTHER, TREE), 2), (("sometimes",) + START + (ONE, EVEN, (), 0, MENDED, OTHER, TREE), 3),
    (("sometimes",) + START + (ONE, EVEN, (), (0, 0), OTHER, OTHER, TREE), 4), (("sometimes",) + START + (ONE, EVEN, (), (0, 0), ONE, OTHER, TREE), 4),
    # a cell that is pinned is a cell, but no mend that leaves it changes it
    (("sometimes",) + START + (ONE, EVEN, ((0, 0),), (0, 0), MENDED, OTHER, TREE), 4),
    (("sometimes",) + START + (ONE, EVEN, ((0, 1),), (0, 1), MENDED, OTHER, TREE), 4),
    (("sometimes",) + START + (ONE, EVEN, (), (0, 0), MENDED, MENDED, TREE), 5), (("sometimes",) + START + (ONE, EVEN, (), (0, 0), MENDED, ONE, TREE), 5),
    (("sometimes",) + START + (ONE, COSTS, (), (0, 0), MENDED, OTHER, TREE), 6),
    (("sometimes",) + START + (ONE, EVEN, (), (0, 1), ((45, 8, 0),), ((45, 7, 0),), TREE), 6),
    (("sometimes",) + START + (ONE, EVEN, (), (0, 0), MENDED, OTHER, ()), 7),
    (("sometimes",) + START + (ONE, (1, 1, 2), (), (0, 0), ((45, 8, 0),), OTHER, TREE), 7),
    (("sometimes",) + START + (ONE, EVEN, (), (0, 0), MENDED, OTHER, (BOTH, WAR, (None, ()))), 7),
]
CONDITIONS = {
    "filled": 2, "unfilled": 2, "forced": 4, "unforced": 5, "blame": 4, "correction": 4, "lists": 5, "mend": 5, "held": 3,
    "always": 6, "never": 6, "sometimes": 8}


def made(seed, cells=6):
    """Columns, rules, a draft, a small table, costs and pinned cells."""
    dice = random.Random(seed)
    columns = made_columns(seed, 3)
    rules, small = made_rules(dice, columns, 8), made_small(dice, columns, cells)
    costs = tuple([dice.choice([1, 1, 2, 5, 9]) for _ in columns])
    return columns, rules, made_draft(dice, columns, 4), small, costs, made_some(dice, small, dice.choice([0, 0.2, 0.5]))


def made_records(seed):
    """Right records, made by the functions of the package."""
    columns, rules, draft, small, costs, pinned = made(seed)
    start = (columns, rules)
    table, war = filling(columns, rules, draft), draft_war(columns, rules, draft)
    if war is not None:
        yield ("unfilled",) + start + (draft, war)
    else:
        yield ("filled",) + start + (draft, table)
        for cell in all_cells(draft)[:4]:
            yield forced_record(columns, rules, draft, cell)
    yield lists_record(columns, rules, small)
    for some in blames(columns, rules, small)[:2]:
        yield blame_record(columns, rules, small, some)
    for some in least_corrections(columns, rules, small)[:2]:
        yield correction_record(columns, rules, small, some)
    asked = start + (small, costs, pinned)
    least = price(*asked)
    if least is None:
        yield ("held",) + start + (small, pinned, draft_war(columns, rules, draft_of(small, pinned)))
    else:
        yield ("mend",) + asked + (mend(*asked), price_tree(*asked, (), least))
    for cell in all_cells(small)[:4]:
        record = fate_record(*asked, cell)
        if record is not None:
            yield record


class Judge(unittest.TestCase):
    def judge(self, record):
        """What the judge says; asserts that the conditions say the same."""
        told = judge(record)
        self.assertTrue(same(told, first_wrong(conditions_of(record))), (record, told))
        return told

    def test_right(self):
        for record in RIGHT:
            self.assertEqual(self.judge(record), ("right",), record)
        self.assertEqual({record[0] for record in RIGHT}, set(FORMS))

    def test_each_condition(self):
        told = {}
        for record, number in WRONG_ONES:
            self.assertEqual(self.judge(record), ("wrong", number), record)
            told[record[0]] = told.get(record[0], set()) | {number}
        self.assertEqual({form: len(numbers) for form, numbers in told.items()}, CONDITIONS)
        self.assertTrue(all(numbers == set(range(CONDITIONS[form])) for form, numbers in told.items()))

    def test_made(self):
        told = {}
        for seed in range(250):
            for record in made_records(seed):
                self.assertEqual(self.judge(record), ("right",), record)
                told[record[0]] = told.get(record[0], 0) + 1
        self.assertTrue(all(told.get(form, 0) > 15 for form in FORMS), told)

    def test_bent_by_hand(self):
        for record in RIGHT:
            for place in range(3, len(record)):
                for value in bends(record[place]):
                    self.judge(record[:place] + (value,) + record[place + 1:])

    def test_bent_made(self):
        wrong = {}
        for seed in range(120):
            dice = random.Random(seed)
            for record in made_records(seed):
                if len(repr(record)) < 1200:
                    place = dice.randrange(3, len(record))
                    bent = list(bends(record[place]))
                    for value in dice.sample(bent, min(12, len(bent))):
                        told = self.judge(record[:place] + (value,) + record[place + 1:])
                        wrong[told] = wrong.get(told, 0) + 1
        self.assertTrue(all(wrong.get(("wrong", number), 0) > 20 for number in range(6)), wrong)

    def test_entries_of_other_records(self):
        told = {}
        for seed in range(120):
            columns, rules, _, _, _, _ = made(seed)
            others = {record[0]: record for record in made_records(seed + 1000)}
            before = {}
            for record in made_records(seed):
                for other in [others.get(record[0]), before.get(record[0])]:
                    for place in range(3, len(record)):
                        if other is not None:
                            number = self.judge(record[:place] + (other[place],) + record[place + 1:])
                            told[number] = told.get(number, 0) + 1
                before[record[0]] = record
        self.assertTrue(all(told.get(("wrong", number), 0) > 20 for number in range(6)), told)
        self.assertGreater(told[("right",)], 100)

    def test_with_other_rules(self):
        for seed in range(100):
            for record in made_records(seed):
                rules = record[2]
                for other in [rules[:-1], rules[1:], rules[::-1], (rules + rules[:1])[:8]]:
                    self.judge(record[:2] + (other,) + record[3:])

    def test_any_entries(self):
        for record in RIGHT:
            for place in range(3, len(record)):
                for value in any_values() + DEEP:
                    self.judge(record[:place] + (value,) + record[place + 1:])
                    self.judge(record[:place] + ((value,),) + record[place + 1:])

    def test_no_rows(self):
        rules = (((), 2, 0), ((), 2, 1))
        for record, right in [
                (("filled", COLUMNS, rules, (), ()), ("right",)), (("unfilled", COLUMNS, rules, (), ("clash",)), ("wrong", 1)),
                (("lists", COLUMNS, rules, (), (), (((), ()),)), ("right",)), (("lists", COLUMNS, rules, (), (), ()), ("wrong", 4)),
                (("mend", COLUMNS, rules, (), COSTS, (), (), ()), ("right",)), (("held", COLUMNS, rules, (), (), ("clash",)), ("wrong", 2)),
                (("correction", COLUMNS, rules, (), (), (), ()), ("right",)), (("blame", COLUMNS, rules, (), (), ("clash",), ()), ("wrong", 2))]:
            self.assertEqual(self.judge(record), right)
        war = ("step", 0, 0, ("step", 1, 0, ("clash",)))
        self.assertEqual(self.judge(("lists", COLUMNS, rules, ONE, (((), war),), ())), ("right",))
        self.assertEqual(self.judge(("blame", COLUMNS, rules, ONE, (), war, ())), ("right",))


class Made(unittest.TestCase):
    """The functions that make records: what they return is right, begins with what was asked, and is brisk."""

    def right(self, record, *start):
        self.assertTrue(same(record[:len(start)], start), record)
        self.assertEqual(judge(record), ("right",), record)
        self.assertEqual(first_wrong(conditions_of(record)), ("right",), record)

    def test_forced(self):
        told = {}
        for seed in range(500):
            columns, rules, draft, _, _, _ = made(seed)
            war = draft_war(columns, rules, draft)
            forced = forced_cells(columns, rules, draft) if war is None else None
            for cell in all_cells(draft):
                if war is not None:
                    with self.assertRaises(AtWar) as caught:
                        forced_record(columns, rules, draft, cell)
                    self.assertTrue(is_war(columns, rules, draft, caught.exception.tree, brisk=True))
                    continue
                record = forced_record(columns, rules, draft, cell)
                value = forced[cell[0]][cell[1]]
                self.right(record, "unforced" if value is None else "forced", columns, rules, draft, cell)
                if value is not None:
                    self.assertEqual(record[5][cell[0]][cell[1]], value)
                    self.assertTrue(is_force(columns, rules, draft, cell, value, record[6], brisk=True), record)
                key = (record[0], draft[cell[0]][cell[1]] is None)
                told[key] = told.get(key, 0) + 1
        self.assertNotIn(("unforced", False), told)
        self.assertGreater(min(told.values()), 100)

    def test_forced_by_hand(self):
        columns, rules = ((0, 1), None), ((((0, 0),), 1, 5), (((0, 1),), 1, 5))
        record = forced_record(columns, rules, ((None, None),), (0, 1))
        self.right(record, "forced", columns, rules, ((None, None),), (0, 1))
        self.assertEqual(record[6][0], "split")
        # the made up values of both fillings differ, also beside great ones
        for great in (0, 5, BIG, 10 ** 50):
            self.right(forced_record((None,), (), ((None,), (great,)), (0, 0)), "unforced", (None,), (), ((None,), (great,)), (0, 0))
        # a column of one value
        self.right(forced_record(((3,),), (), ((None,),), (0, 0)), "forced", ((3,),), (), ((None,),), (0, 0), ((3,),))

    def test_lists(self):
        for seed in range(250):
            columns, rules, _, small, _, _ = made(seed, 9)
            record = lists_record(columns, rules, small)
            self.right(record, "lists", columns, rules, small)
            self.assertEqual(sorted([some for some, _ in record[4]]), blames(columns, rules, small))
            self.assertEqual(sorted([some for some, _ in record[5]]), least_corrections(columns, rules, small))
            for some, war in record[4]:
                self.assertTrue(is_war(columns, rules, draft_of(small, some), war, brisk=True))

    def test_blames_and_corrections(self):
        told = [0, 0]
        for seed in range(60):
            columns, rules, _, small, _, _ = made(seed)
            blamed, corrected = blames(columns, rules, small), least_corrections(columns, rules, small)
            for some in oracle.subsets(all_cells(small)):
                record = blame_record(columns, rules, small, some)
                self.assertIs(record is not None, some in blamed)
                if record is not None:
                    self.right(record, "blame", columns, rules, small, some)
                    self.assertTrue(is_war(columns, rules, draft_of(small, some), record[5], brisk=True))
                other = correction_record(columns, rules, small, some)
                self.assertIs(other is not None, some in corrected)
                if other is not None:
                    self.right(other, "correction", columns, rules, small, some)
                    for one, war in other[6]:
                        self.assertTrue(is_war(columns, rules, draft_of(small, one), war, brisk=True))
                told = [told[0] + (record is not None), told[1] + (other is not None)]
        self.assertGreater(min(told), 40)

    def test_fates(self):
        told = {}
        for seed in range(400):
            columns, rules, _, small, costs, pinned = made(seed, 9)
            asked, blamed = (columns, rules, small, costs, pinned), blames(columns, rules, small)
            found = fates(*asked)
            for cell in all_cells(small):
                record = fate_record(*asked, cell)
                self.assertIs(record is None, found is None or cell in pinned)
                if record is not None:
                    fate = found[cell[0]][cell[1]]
                    self.right(record, fate, *asked, cell)
                    self.judge_tree(record, blamed)
                    told[fate] = told.get(fate, 0) + 1
        self.assertGreater(min(told.values()), 40)

    def judge_tree(self, record, blamed):
        """Asserts that the price tree of the record of a fate has blames and brisk wars alone."""
        fate, columns, rules, small, costs, pinned, cell = record[:7]
        number = price(columns, rules, small, costs, pinned)
        if fate == "always":
            asked = (pinned + (cell,), (), number + 1)
        elif fate == "never":
            asked = (pinned, (cell,), number + 1 - costs[cell[1]])
        else:
            asked = (pinned, (), number)
        self.assertTrue(price_tree_judged((columns, rules, small), costs, *asked, record[-1], blamed), record)

    def test_errors(self):
        for value in any_values() + DEEP + [(0, 0, 0), (0,), (1, 0), (0, 3), (0, -1), (0, True), [0, 0], (-1, 0)]:
            if not right_cell(DRAFT, value):
                assert_raises(self, InvalidCells, forced_record, (COLUMNS, RULES, DRAFT, value))
                assert_raises(self, InvalidDraft, forced_record, (COLUMNS, RULES, ((44, 7),), value))
                assert_raises(self, InvalidRules, forced_record, (COLUMNS, RULES * 5, ((44, 7),), value))
                assert_raises(self, InvalidColumns, forced_record, ((), RULES * 5, ((44, 7),), value))
            if not right_cell(ONE, value):
                # ahead of AtWar
                assert_raises(self, InvalidCells, forced_record, (COLUMNS, RULES, ONE, value))
                # also where no mend leaves the pinned cells
                for pinned in [(), BOTH]:
                    assert_raises(self, InvalidCells, fate_record, (COLUMNS, RULES, ONE, COSTS, pinned, value))
                assert_raises(self, InvalidCells, fate_record, (COLUMNS, RULES, ONE, COSTS, None, value))
                assert_raises(self, InvalidCosts, fate_record, (COLUMNS, RULES, ONE, COSTS[1:], None, value))
                assert_raises(self, InvalidTable, fate_record, (COLUMNS, RULES, ONE * 4, COSTS[1:], None, value))
            if not right_some(ONE, value):
                for call in (blame_record, correction_record):
                    assert_raises(self, InvalidCells, call, (COLUMNS, RULES, ONE, value))
                    assert_raises(self, InvalidTable, call, (COLUMNS, RULES, ONE * 4, value))
                    assert_raises(self, InvalidRules, call, (COLUMNS, RULES * 5, ONE * 4, value))
                    assert_raises(self, InvalidColumns, call, ((), RULES * 5, ONE * 4, value))
            if not (oracle.right_table(COLUMNS, value) and len(value) <= 3):
                assert_raises(self, InvalidTable, lists_record, (COLUMNS, RULES, value))
        with self.assertRaises(AtWar) as caught:
            forced_record(COLUMNS, RULES, ONE, (0, 0))
        self.assertEqual(caught.exception.tree, WAR)


class Errors(unittest.TestCase):
    def test_no_record(self):
        for value in any_values() + DEEP + [("held",), ("helds", COLUMNS, RULES, ONE, BOTH, WAR), ("", 0, 0, 0)]:
            assert_raises(self, NotARecord, judge, (value,))
            assert_raises(self, NotARecord, judge, ((value, COLUMNS, RULES, ONE, BOTH, WAR),))
        for record in RIGHT:
            for form in FORMS:
                if LENGTHS[form] != len(record):
                    assert_raises(self, NotARecord, judge, ((form,) + record[1:],))
            for other in [list(record), record + (None,), record[:-1], (record[0].upper(),) + record[1:],
                          ([record[0]],) + record[1:], record[:-1] + (COLUMNS, None), (record,)]:
                assert_raises(self, NotARecord, judge, (other,))

    def test_no_certificate(self):
        for record in RIGHT:
            assert_raises(self, NotACertificate, check, (record,))
        for form in oracle_checker.FORMS:
            certificate = (form, COLUMNS, RULES) + (None,) * (oracle_checker.LENGTHS[form] - 3)
            assert_raises(self, NotARecord, judge, (certificate,))

    def test_columns_and_rules(self):
        for record in RIGHT:
            rest = record[3:]
            for columns in WRONG["columns"][1] + any_values():
                if not oracle.right_columns(columns):
                    for rules in [RULES, None, RULES * 5]:
                        assert_raises(self, InvalidColumns, judge, (record[:1] + (columns, rules) + rest,))
            for rules in WRONG["rules"][1] + any_values():
                if not oracle.right_rules(COLUMNS, rules):
                    for more in [rest, (None,) * len(rest)]:
                        assert_raises(self, InvalidRules, judge, (record[:1] + (COLUMNS, rules) + more,))


class General(unittest.TestCase):
    def test_unchanged_and_equal(self):
        for record in RIGHT + [record for record, _ in WRONG_ONES]:
            told, unchanged = left_alone(judge, [record])
            self.assertTrue(unchanged)
            self.assertTrue(same(told, judge(renewed(record))))
        for seed in range(60):
            self.assertTrue(same(list(made_records(seed)), list(made_records(seed))))

    def test_time(self):
        for seed in range(25):
            dice = random.Random(seed)
            columns = dice.choice([((0, 1, 2), (0, 1, 2), None), (None,) * 3])
            rules = tuple([made_rule(dice, columns) for _ in range(8)])
            small = tuple([tuple([dice.randrange(3) for _ in range(3)]) for _ in range(3)])
            self.limits(columns, rules, small)
        apart = (((), 0, None), ((), 1, None), ((), 2, None))
        self.limits((None,) * 3, apart, ((1, 1, 1), (2, 2, 2), (3, 3, 3)))

    def limits(self, columns, rules, small):
        start = time.monotonic()
        records = [lists_record(columns, rules, small)]
        for some in blames(columns, rules, small)[:1]:
            records.append(blame_record(columns, rules, small, some))
        for some in least_corrections(columns, rules, small)[:1]:
            records.append(correction_record(columns, rules, small, some))
        for cell in all_cells(small):
            records.append(fate_record(columns, rules, small, (1, 1, 1), (), cell))
        draft = draft_of(small, all_cells(small)[::2]) + ((None,) * 3,)[:0] + tuple([(0, 0, None)] * 5)
        if filling(columns, rules, draft) is not None:
            records += [forced_record(columns, rules, draft, cell) for cell in all_cells(draft)]
        for record in records:
            if record is not None:
                self.assertEqual(judge(record), ("right",))
        self.assertLess(time.monotonic() - start, 6)


if __name__ == "__main__":
    unittest.main()
