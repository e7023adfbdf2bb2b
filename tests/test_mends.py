"""Points 3, 26, 27 and 28: mends, prices, price trees and fates."""

import random
import time
import unittest

from whererules.blames import blames, least_corrections
from whererules.covers import cover
from whererules.drafts import draft_war
from whererules.errors import InvalidCells, InvalidColumns, InvalidNumber, InvalidRules, InvalidTable
from whererules.fates import fates
from whererules.faults import InvalidCosts
from whererules.following import follows
from whererules.mends import cheaper_mend, is_price_tree, mend, price, price_tree
from whererules.peace import peaceful_row

import oracle
from oracle_drafts import all_cells, case_of_draft, differing, draft_of, standing
from oracle_mends import cost_of, fates_by, is_mend, lowest, price_tree_judged, right_costs
from samples import (
    BIG, any_values, bends, made_columns, made_rule, made_rules, made_small, made_some, nested, same, shared)
from wild import wild_draft_tree
from wrong import assert_raises

COLUMNS = (None, None, (0, 1))
RULES = ((((0, 44),), 2, 1), (((1, None), (2, 1)), 0, None))
SMALL = ((44, 7, 0), (44, 7, 1), (1, 7, 1))
ONE = ((44, 7, 0),)
NO_ROW = (((), 2, 0), ((), 2, 1))
WAR = ("step", 0, 0, ("clash",))
PAIR = ((((0, None),), 1, None),)
THREE = ((5, 1), (5, 1), (5, 2))
NUMBERS = [-BIG, -7, -1, 0, 1, 2, 3, 5, 8, 13, 30, 81, 82, 400, BIG]


def made(seed, cells=6, many=8):
    """Columns, rules, a small table and costs."""
    dice = random.Random(seed)
    columns = made_columns(seed)
    costs = tuple([dice.choice([1, 1, 2, 3, 5, 9]) for _ in columns])
    if dice.random() < 0.3:
        costs = (dice.choice([1, 9]),) * len(columns)
    return columns, made_rules(dice, columns, many), made_small(dice, columns, cells), costs


def made_sets(dice, small):
    """Pinned cells and waived cells, none of them both."""
    pinned = dice.choice([(), (), made_some(dice, small, 0.2), made_some(dice, small), all_cells(small)])
    waived = dice.choice([(), (), made_some(dice, small, 0.2), made_some(dice, small), all_cells(small)])
    return pinned, tuple([cell for cell in waived if cell not in pinned])


class Prices(unittest.TestCase):
    def judge(self, question, costs, pinned, stands):
        """Compares price, mend and fates with all sets of cells that can stand together; returns the price."""
        columns, rules, small = question
        right = lowest(small, stands, costs, pinned)
        told, table = price(*question, costs, pinned), mend(*question, costs, pinned)
        self.assertTrue(same(told, right), (question, costs, pinned, told, right))
        if right is None:
            self.assertIsNone(table)
        else:
            self.assertTrue(is_mend(columns, rules, small, pinned, table), (question, costs, pinned, table))
            self.assertEqual(cost_of(costs, differing(small, table)), right)
            self.assertIn(differing(small, table), least_corrections(*question))
            self.assertEqual(right == 0, oracle.all_hold(rules, small))
        self.assertTrue(same(fates(*question, costs, pinned), fates_by(small, stands, costs, pinned)))
        return right

    def test_by_hand(self):
        for columns, rules, small, costs, pinned, right in [
                (COLUMNS, RULES, ONE, (1, 1, 5), (), 1), (COLUMNS, RULES, ONE, (1, 1, 5), ((0, 0),), 5),
                (COLUMNS, RULES, ONE, (9, 1, 5), (), 5), (COLUMNS, RULES, ONE, (1, 1, 5), ((0, 0), (0, 2)), None),
                (COLUMNS, RULES, ONE, (1, 1, 5), all_cells(ONE), None), (COLUMNS, (), ONE, (1, 1, 5), all_cells(ONE), 0),
                (COLUMNS, RULES, ((44, 7, 1),), (1, 1, 5), all_cells(ONE), 0), (COLUMNS, NO_ROW, ONE, (1, 1, 5), (), None),
                (COLUMNS, NO_ROW, (), (1, 1, 5), (), 0), ((None, None), PAIR, THREE, (9, 1), (), 1),
                ((None, None), PAIR, THREE, (9, 1), ((2, 1),), 2), ((None, None), PAIR, THREE, (9, 9), (), 9),
                ((None, None), PAIR, THREE, (9, 1), ((0, 1), (2, 1)), 9),
                ((None, None), PAIR, THREE, (9, 1), ((0, 1), (2, 0), (2, 1)), 10)]:
            told = self.judge((columns, rules, small), costs, pinned, standing(columns, rules, small))
            self.assertTrue(same(told, right), (rules, small, costs, pinned, told))

    def test_fates_by_hand(self):
        for columns, rules, small, costs, pinned, right in [
                ((None, None), PAIR, THREE, (9, 1), (), (("never",) * 2, ("never",) * 2, ("never", "always"))),
                ((None, None), PAIR, THREE, (9, 9), (), (("never",) * 2, ("never",) * 2, ("sometimes", "sometimes"))),
                ((None, None), PAIR, THREE, (9, 9), ((2, 1),), (("never",) * 2, ("never",) * 2, ("always", "never"))),
                ((None, None), PAIR, THREE, (9, 9), ((2, 0), (2, 1)), (("sometimes",) * 2, ("sometimes",) * 2, ("never",) * 2)),
                (COLUMNS, RULES, ONE, (1, 1, 5), (), (("always", "never", "never"),)),
                (COLUMNS, RULES, ONE, (5, 1, 5), (), (("sometimes", "never", "sometimes"),)),
                (COLUMNS, RULES, ONE, (1, 1, 5), ((0, 0), (0, 2)), None), (COLUMNS, NO_ROW, ONE, (1, 1, 5), (), None),
                (COLUMNS, NO_ROW, (), (1, 1, 5), (), ()), (COLUMNS, (), ONE, (1, 1, 5), (), (("never",) * 3,))]:
            self.assertTrue(same(fates(columns, rules, small, costs, pinned), right), (rules, small, costs, pinned))

    def test_made(self):
        told = {}
        for seed in range(500):
            columns, rules, small, costs = made(seed, 9 if seed % 20 == 0 else 6)
            dice, question = random.Random(seed), (columns, rules, small)
            stands = standing(*question)
            for pinned in [(), all_cells(small), made_some(dice, small, 0.2), made_some(dice, small)]:
                right = self.judge(question, costs, pinned, stands)
                kind = "none" if right is None else "kept" if right == 0 else "mended"
                key = (kind, "some" if 0 < len(pinned) < len(all_cells(small)) else "all" if pinned else "no")
                told[key] = told.get(key, 0) + 1
        for kind in ("none", "kept", "mended"):
            for pins in ("no", "some", "all"):
                if (kind, pins) != ("mended", "all"):
                    self.assertGreater(told.get((kind, pins), 0), 30, (kind, pins))
        self.assertNotIn(("mended", "all"), told)

    def test_all_pinned_cells(self):
        for seed in range(0, 60):
            columns, rules, small, costs = made(seed)
            stands = standing(columns, rules, small)
            for pinned in oracle.subsets(all_cells(small)):
                self.judge((columns, rules, small), costs, pinned, stands)

    def test_kinds_of_fates(self):
        told = {}
        for seed in range(600):
            columns, rules, small, costs = made(seed)
            for row in fates(columns, rules, small, costs, ()) or ():
                for fate in row:
                    told[fate] = told.get(fate, 0) + 1
        self.assertGreater(min(told["always"], told["never"], told["sometimes"]), 50)

    def test_what_follows_changes_nothing(self):
        changed = 0
        for seed in range(250):
            columns, rules, small, costs = made(seed, 9, 6)
            pinned, _ = made_sets(random.Random(seed), small)
            right = (price(columns, rules, small, costs, pinned), fates(columns, rules, small, costs, pinned))
            rule = made_rule(random.Random(seed + 1), columns)
            others = [rules + (rule,)] if follows(columns, rules, rule) else []
            if peaceful_row(columns, rules) is not None:
                others.append(cover(columns, rules))
            for other in others:
                told = (price(columns, other, small, costs, pinned), fates(columns, other, small, costs, pinned))
                self.assertTrue(same(right, told))
                changed += other != rules and right[0] not in (0, None)
        self.assertGreater(changed, 30)


class PriceTrees(unittest.TestCase):
    def judge(self, question, costs, pinned, waived, number, stands):
        """Exactly one of a price tree and a cheaper mend; returns the tree."""
        columns, rules, small = question
        least = lowest(small, stands, costs, pinned, waived)
        tree = price_tree(*question, costs, pinned, waived, number)
        table = cheaper_mend(*question, costs, pinned, waived, number)
        self.assertIs(tree is None, least is not None and least < number, (question, costs, pinned, waived, number))
        self.assertIs(table is None, tree is not None)
        if tree is None:
            self.assertTrue(is_mend(columns, rules, small, pinned, table))
            self.assertLess(cost_of(costs, differing(small, table), waived), number)
        elif number <= 0:
            self.assertEqual(tree, ())
        else:
            blamed = blames(*question)
            self.assertTrue(price_tree_judged(question, costs, pinned, waived, number, tree, blamed), tree)
            self.assertIs(is_price_tree(*question, costs, pinned, waived, number, tree), True)
        return tree

    def test_by_hand(self):
        blame = ((0, 0), (0, 2))
        for pinned, waived, number, right in [
                ((), (), 0, ()), ((), (), -BIG, ()), ((), (), 1, (blame, WAR, ((), ()))), ((), (), 2, None),
                (((0, 0),), (), 5, (blame, WAR, (None, ()))), (((0, 0),), (), 6, None), ((), ((0, 0),), 1, None),
                ((), ((0, 1),), 1, (blame, WAR, ((), ()))), (((0, 0), (0, 2)), (), BIG, (blame, WAR, (None, None))),
                (all_cells(ONE), (), 700, (blame, WAR, (None, None))), (((0, 0),), ((0, 2),), 1, None)]:
            question = (COLUMNS, RULES, ONE)
            tree = self.judge(question, (1, 1, 5), pinned, waived, number, standing(*question))
            self.assertTrue(same(tree, right), (pinned, waived, number, tree))
        tree = self.judge((COLUMNS, NO_ROW, ONE), (1, 1, 5), (), all_cells(ONE), BIG, standing(COLUMNS, NO_ROW, ONE))
        self.assertEqual((tree[0], tree[2]), ((), ()))
        self.assertEqual(self.judge((COLUMNS, NO_ROW, ()), (1, 1, 5), (), (), 1, {(): True}), None)

    def test_made(self):
        told = {}
        for seed in range(500):
            columns, rules, small, costs = made(seed, 9 if seed % 20 == 0 else 6)
            dice, question = random.Random(seed), (columns, rules, small)
            stands = standing(*question)
            for _ in range(4):
                pinned, waived = made_sets(dice, small)
                least = lowest(small, stands, costs, pinned, waived)
                for number in [least, (least or 0) + 1, dice.choice(NUMBERS)]:
                    if number is not None:
                        tree = self.judge(question, costs, pinned, waived, number, stands)
                        key = "none" if tree is None else "least" if tree == () else "tree"
                        told[key] = told.get(key, 0) + 1
        self.assertGreater(min(told.values()), 500)

    def test_all_waived_cells(self):
        for seed in range(60):
            columns, rules, small, costs = made(seed)
            stands = standing(columns, rules, small)
            pinned = made_some(random.Random(seed), small, 0.2)
            for waived in oracle.subsets([cell for cell in all_cells(small) if cell not in pinned]):
                least = lowest(small, stands, costs, pinned, waived)
                self.judge((columns, rules, small), costs, pinned, waived, 77 if least is None else least, stands)

    def test_what_fates_show(self):
        """A cell that all cheapest mends change costs more if it is pinned, one that none changes if it is waived."""
        for seed in range(150):
            columns, rules, small, costs = made(seed, 9)
            question = (columns, rules, small)
            least = price(*question, costs, ())
            for i, row in enumerate(fates(*question, costs, ()) or ()):
                for j, fate in enumerate(row):
                    if fate == "always":
                        self.assertIsNotNone(price_tree(*question, costs, ((i, j),), (), least + 1))
                    else:
                        self.assertIsNone(price_tree(*question, costs, ((i, j),), (), least + 1))
                    beside = price_tree(*question, costs, (), ((i, j),), least + 1 - costs[j])
                    self.assertIs(beside is not None, fate == "never")


class IsPriceTree(unittest.TestCase):
    def judge(self, question, costs, pinned, waived, number, value):
        right = price_tree_judged(question, costs, pinned, waived, number, value)
        told = is_price_tree(*question, costs, pinned, waived, number, value)
        self.assertIs(told, right, (question, costs, pinned, waived, number, value))
        return right

    def test_by_hand(self):
        question, both = (COLUMNS, RULES, ONE), ((0, 0), (0, 2))
        right = (both, WAR, ((), ()))
        longer = (((0, 0), (0, 1), (0, 2)), WAR, ((), (), ()))
        again = (both, WAR, (right, right))
        for pinned, waived, number, value, told in [
                ((), (), 1, right, True), ((), (), 0, right, True), ((), (), -5, right, True), ((), (), 2, right, False),
                ((), (), 0, (), True), ((), (), -1, (), True), ((), (), 1, (), False), ((), (), 1, None, False),
                ((), (), -1, None, False), ((), (), 0, [], False), ((), (), 1, list(right), False),
                ((), (), 1, (list(both), WAR, ((), ())), False), ((), (), 1, (both, WAR, [(), ()]), False),
                ((), (), 1, (both, WAR, ((),)), False), ((), (), 1, (both, WAR, ((), (), ())), False),
                ((), (), 1, (both[::-1], WAR, ((), ())), False), ((), (), 1, (both, ("clash",), ((), ())), False),
                ((), (), 1, (both, WAR, (None, ())), False), ((), (), 1, (both, WAR, ((), None)), False),
                (((0, 0),), (), 5, (both, WAR, (None, ())), True), (((0, 0),), (), 6, (both, WAR, (None, ())), False),
                (((0, 0),), (), 1, right, True), (((0, 0),), (), 5, right, False), (((0, 2),), (), 1, right, True),
                (both, (), BIG, (both, WAR, (None, None)), True), (both, (), BIG, (both, WAR, (None, ())), False),
                (both, (), BIG, (both, WAR, (None, right)), False),
                # a tree in the place of None, where the cell is waived, too
                (((0, 0),), (), 1, (both, WAR, (again, ())), False),
                # a set that is no blame, and a cell of it that costs too little
                ((), (), 1, longer, True), ((), (), 2, longer, False), (((0, 1),), (), 1, longer, True),
                ((), ((0, 1),), 1, longer, False), ((), ((0, 1),), 1, right, True), ((), ((0, 0),), 1, right, False),
                ((), ((0, 0),), -1, right, False), ((), ((0, 0),), -1, (), True),
                # waived on the way
                ((), (), 2, again, False), ((), (), 0, again, False),
                ((), (), 1, (both, WAR, (((), WAR, ()), ())), False), ((), (), 1, ((), WAR, ()), False),
                ((), (), 1, (((0, 0), (0, True)), WAR, ((), ())), False),
                ((), (), 1, (((0, 0), (0, 0), (0, 2)), WAR, ((), (), ())), False),
                ((), (), 1, (((0, 0), (1, 2)), WAR, ((), ())), False), ((), (), 1, (both, WAR), False),
                ((), (), 1, (both, WAR, ((), ()), ()), False), ((), (), 1, (both, ("step", False, 0, ("clash",)), ((), ())), False)]:
            self.assertIs(self.judge(question, (1, 1, 5), pinned, waived, number, value), told, (pinned, waived, number, value))

    def test_wars_that_are_not_brisk(self):
        rules = RULES + (((), 1, 7),)
        for war in [("step", 2, 0, WAR), ("split", 0, 2, (WAR, ("clash",)))]:
            self.assertTrue(self.judge((COLUMNS, rules, ONE), (1, 1, 5), (), (), 1, (((0, 0), (0, 2)), war, ((), ()))))

    def test_at_war(self):
        war = ("step", 0, 0, ("step", 1, 0, ("clash",)))
        question = (COLUMNS, NO_ROW, ONE)
        self.assertTrue(self.judge(question, (1, 1, 1), (), (), BIG, ((), war, ())))
        self.assertTrue(self.judge(question, (1, 1, 1), (), all_cells(ONE), BIG, ((), war, ())))
        self.assertFalse(self.judge((COLUMNS, NO_ROW, ()), (1, 1, 1), (), (), 1, ((), war, ())))

    def made(self, seed):
        """A question with costs, pinned and waived cells, a number and a price tree of it."""
        columns, rules, small, costs = made(seed)
        pinned, waived = made_sets(random.Random(seed), small)
        least = lowest(small, standing(columns, rules, small), costs, pinned, waived)
        number = random.Random(seed).choice([1, 9, 50]) if least is None else least
        return (columns, rules, small), costs, pinned, waived, number

    def test_numbers_and_sets(self):
        told = [0, 0]
        for seed in range(400):
            question, costs, pinned, waived, number = self.made(seed)
            tree = price_tree(*question, costs, pinned, waived, number)
            dice = random.Random(seed)
            for other in [number - 1, number + 1, number + 9, number - 30, BIG]:
                told[self.judge(question, costs, pinned, waived, other, tree)] += 1
            for _ in range(4):
                told[self.judge(question, costs, *made_sets(dice, question[2]), number, tree)] += 1
            more = tuple([dice.randint(1, 9) for _ in costs])
            told[self.judge(question, more, pinned, waived, number, tree)] += 1
        self.assertGreater(min(told), 500)

    def test_bent(self):
        told = [0, 0]
        for seed in range(300):
            question, costs, pinned, waived, number = self.made(seed)
            tree = price_tree(*question, costs, pinned, waived, number)
            if 2 < len(repr(tree)) < 250:
                for bent in bends(tree):
                    told[self.judge(question, costs, pinned, waived, number, bent)] += 1
        self.assertGreater(told[False], 20000)
        self.assertGreater(told[True], 50)

    def wild(self, dice, question, costs, pinned, waived, number, stands):
        """A price tree, right as often as not, with any sets of cells."""
        columns, rules, small = question
        if number <= 0 and dice.random() < 0.7:
            return ()
        sets = [some for some in stands if not stands[some] and not set(some) & set(waived)]
        if not sets or dice.random() < 0.02:
            return dice.choice([(), None, ((), ("clash",), ())])
        some = dice.choice(sets)
        war, draft = draft_war(columns, rules, draft_of(small, some)), draft_of(small, some)
        if dice.random() < 0.2:
            war = wild_draft_tree(dice, rules, case_of_draft(columns, draft), lambda told: False, 6)
        trees = []
        for cell in some:
            left, more = number - costs[cell[1]], waived + (cell,)
            if dice.random() < (0.7 if cell in pinned else 0.01):
                trees.append(None)
            else:
                trees.append(self.wild(dice, question, costs, pinned, more, left, stands))
        return (some, war, tuple(trees))

    def test_wild(self):
        told = [0, 0]
        for seed in range(1500):
            question, costs, pinned, waived, number = self.made(seed)
            if len(all_cells(question[2])) <= 4:
                dice, stands = random.Random(seed), standing(*question)
                number = dice.choice([number, number, number + 1, 3])
                tree = self.wild(dice, question, costs, pinned, waived, number, stands)
                told[self.judge(question, costs, pinned, waived, number, tree)] += 1
        self.assertGreater(min(told), 100)

    def test_any_value(self):
        question, both = (COLUMNS, RULES, ONE), ((0, 0), (0, 2))
        deep = [nested(60, tuple), nested(60, list), nested(160, tuple, ("clash",)), shared(40)]
        for value in any_values() + deep:
            for number in (1, 0, -3):
                for tree in [value, (value,), (both, WAR, value), (both, value, ((), ())), (value, WAR, ((), ())),
                             (both, WAR, (value, ())), (both, WAR, ((), value)), (both, WAR, (value, value)),
                             (both, WAR, ((), ()), value)]:
                    self.judge(question, (1, 1, 5), (), (), number, tree)


class Arguments(unittest.TestCase):
    CALLS = [(price, 5), (mend, 5), (fates, 5), (price_tree, 7), (cheaper_mend, 7), (is_price_tree, 8)]
    RIGHT = (COLUMNS, RULES, SMALL, (1, 2, 3), ((0, 0),), ((0, 1),), 1, ())

    def check(self, place, value, error):
        """Asserts that each function raises the error, also where all arguments behind this one are wrong."""
        for call, many in self.CALLS:
            if place < many:
                arguments = self.RIGHT[:place] + (value,) + self.RIGHT[place + 1:]
                assert_raises(self, error, call, arguments[:many])
                arguments = self.RIGHT[:place] + (value,) + (None,) * 8
                assert_raises(self, error, call, arguments[:many])

    def test_each(self):
        for value in any_values() + [nested(60, tuple), nested(60, list), shared(40)]:
            if not oracle.right_columns(value):
                self.check(0, value, InvalidColumns)
            if not oracle.right_rules(COLUMNS, value):
                self.check(1, value, InvalidRules)
            if not (oracle.right_table(COLUMNS, value) and len(value) <= 3):
                self.check(2, value, InvalidTable)
            if not right_costs(COLUMNS, value):
                self.check(3, value, InvalidCosts)
            if value not in ((), ((0, 0),), ((0, 0), (0, 1))) or repr(value).count("True"):
                self.check(4, value, InvalidCells)
                self.check(5, value, InvalidCells)
            if not oracle.integer(value):
                self.check(6, value, InvalidNumber)

    def test_costs(self):
        for value in [(1, 2, 3), (9, 9, 9), (1, 1, 1)]:
            price(COLUMNS, RULES, SMALL, value, ())
        for value in list(bends((1, 2, 9))) + [(0, 1, 1), (10, 1, 1), (1, 1), (1, 1, 1, 1), (1, 1, True), (1, 1, BIG)]:
            if not right_costs(COLUMNS, value):
                self.check(3, value, InvalidCosts)

    def test_cells(self):
        for value in [((0, 0), (0, 0)), ((0, 1), (0, 0)), ((3, 0),), ((0, 3),), ((0, -1),), ((0, True),), ([0, 0],), [(0, 0)],
                      (0, 0), ((0,),), ((0, 0, 0),), None, ((False, 0),)]:
            self.check(4, value, InvalidCells)
            self.check(5, value, InvalidCells)

    def test_pinned_and_waived(self):
        for call, many in self.CALLS[3:]:
            for pinned, waived in [(((0, 0),), ((0, 0),)), (((0, 0), (1, 1)), ((0, 1), (1, 1), (2, 2))),
                                   (all_cells(SMALL), ((2, 2),))]:
                for number in any_values():
                    arguments = (COLUMNS, RULES, SMALL, (1, 2, 3), pinned, waived, number, ())
                    assert_raises(self, InvalidCells, call, arguments[:many])
                call(*(COLUMNS, RULES, SMALL, (1, 2, 3), pinned, (), 5, ())[:many])
            assert_raises(self, InvalidCells, call, (COLUMNS, RULES, SMALL, (1, 2, 3), pinned, ((9, 9),), None, ())[:many])

    def test_equal_arguments(self):
        for seed in range(150):
            columns, rules, small, costs = made(seed, 9)
            pinned, waived = made_sets(random.Random(seed), small)
            for number in (3, 60):
                arguments = (columns, rules, small, costs, pinned, waived, number, ())
                for call, many in self.CALLS:
                    self.assertTrue(same(call(*arguments[:many]), call(*arguments[:many])))


class Time(unittest.TestCase):
    def timed(self, call, *arguments):
        start = time.monotonic()
        told = call(*arguments)
        self.assertLess(time.monotonic() - start, 3)
        return told

    def judge(self, *asked):
        least = self.timed(price, *asked)
        self.timed(mend, *asked)
        self.timed(fates, *asked)
        number = 400 if least is None else least
        for more in (0, 1, 300, BIG):
            tree = self.timed(price_tree, *asked, (), number + more)
            self.timed(cheaper_mend, *asked, (), number + more)
            if tree is not None:
                self.assertTrue(self.timed(is_price_tree, *asked, (), number + more, tree))

    def test_made(self):
        for seed in range(100):
            dice = random.Random(seed)
            columns = dice.choice([((0, 1, 2), (0, 1, 2), None), (None,) * 3, ((0, 1), None, None)])
            rules = tuple([made_rule(dice, columns) for _ in range(8)])
            small = tuple([tuple([dice.choice(column or (0, 1, 2)) for column in columns]) for _ in range(3)])
            self.judge(columns, rules, small, (1,) * 3, made_some(dice, small, dice.choice([0, 0.2, 0.5])))

    def test_all_apart(self):
        # All nine values are apart from the two beside them, so that six of them must change.
        columns, small = (None,) * 3, ((1, 1, 1), (2, 2, 2), (3, 3, 3))
        self.judge(columns, (((), 0, None), ((), 1, None), ((), 2, None)), small, (1, 1, 1), ())
        # All nine must change.
        self.judge(columns, (((), 0, 7), ((), 1, 8), ((), 2, 9)), small, (1, 2, 9), ())
        pairs = tuple([(((k, None),), j, None) for k in range(3) for j in range(3) if j != k])
        self.judge(columns, pairs, ((1, 2, 3), (1, 3, 4), (2, 2, 4)), (1, 1, 1), ())
        closed = ((0, 1, 2), (0, 1, 2), None)
        self.judge(closed, pairs + (((), 2, 5), (((0, 1),), 1, 2)), ((0, 1, 3), (0, 2, 4), (1, 0, 6)), (9, 9, 9), ())


if __name__ == "__main__":
    unittest.main()
