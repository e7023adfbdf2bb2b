"""What the points of DOC.md promise together, over several modules."""

import random
import unittest

from whererules.blames import blames, least_corrections
from whererules.breaks import breaks, fewest_out
from whererules.covers import cover, needless
from whererules.drafts import draft_war, filling, forced_cells
from whererules.errors import AtWar
from whererules.fates import fates
from whererules.finding import found_rules
from whererules.following import against, follows
from whererules.mends import mend, price
from whererules.peace import peaceful_row, war
from whererules.records import lists_record
from whererules.splits import settles
from whererules.views import view_follows, view_rows

import oracle
from oracle_drafts import all_cells, differing, draft_of, is_filling, is_war, named_values
from samples import made_columns, made_rule, made_rules, made_small, made_some, made_table, made_view


def made(seed, many=6):
    """Columns, rules, a small table, costs and pinned cells."""
    dice = random.Random(seed)
    columns = made_columns(seed, 3)
    rules, small = made_rules(dice, columns, many), made_small(dice, columns)
    costs = tuple([dice.randint(1, 9) for _ in columns])
    return columns, rules, small, costs, made_some(dice, small, dice.choice([0, 0.3]))


def row_of(columns, entries):
    """The row of a draft with just these entries."""
    told = dict(entries)
    return tuple([told.get(column) for column in range(len(columns))])


class Settles(unittest.TestCase):
    """Points 3, 13 and 23: what a given settles, a draft of rows that match it forces."""

    def drafts(self, columns, rules, given):
        """For each way to give values to the blank entries: the entries of a row."""
        found = [()]
        for column, value in given:
            values = [value] if value is not None else named_values(columns, rules, (), column, 1)
            found = [some + ((column, one),) for some in found for one in values]
        return found

    def judge(self, columns, rules, given):
        told = settles(columns, rules, given)
        plain = row_of(columns, [entry for entry in given if entry[1] is not None])
        if told == ("never",) * len(columns):
            self.assertTrue(is_war(columns, rules, (plain,), draft_war(columns, rules, (plain,))))
            return told
        forced = forced_cells(columns, rules, (plain,))
        self.assertEqual(forced[0], tuple([None if one in ("same", "free") else one for one in told]))
        for column, one in enumerate(told):
            self.assertEqual(one == "free", self.may_differ(columns, rules, given, column))
        return told

    def may_differ(self, columns, rules, given, column):
        """Whether two rows that match the given and are equal in its columns may differ in this one."""
        values = named_values(columns, rules, (), column, 2)
        for entries in self.drafts(columns, rules, given):
            if column not in [place for place, _ in entries]:
                for one in values:
                    for other in values:
                        draft = (row_of(columns, entries + ((column, one),)), row_of(columns, entries + ((column, other),)))
                        if one < other and filling(columns, rules, draft) is not None:
                            return True
        return False

    def test_made(self):
        seen = {}
        for seed in range(300):
            dice = random.Random(seed)
            columns = made_columns(seed, 3)
            rules = made_rules(dice, columns, 6)
            told = self.judge(columns, rules, made_rule(dice, columns)[0])
            for one in told:
                kind = one if isinstance(one, str) else "value"
                seen[kind] = seen.get(kind, 0) + 1
        self.assertGreater(min(seen["never"], seen["same"], seen["free"], seen["value"]), 25)


class Rules(unittest.TestCase):
    def test_drafts_and_peace(self):
        """A row of which nothing is known has a filling just if rules are at peace."""
        for seed in range(300):
            columns, rules, _, _, _ = made(seed)
            empty = ((None,) * len(columns),)
            self.assertEqual(filling(columns, rules, empty) is None, war(columns, rules) is not None)
            self.assertEqual(peaceful_row(columns, rules) is None, draft_war(columns, rules, empty) is not None)

    def test_drafts_and_what_follows(self):
        """A value rule follows just if the row of its given has no other value in its column."""
        for seed in range(300):
            columns, rules, _, _, _ = made(seed)
            given, column, want = made_rule(random.Random(seed), columns)
            if want is not None:
                try:
                    forced = forced_cells(columns, rules, (row_of(columns, given),))[0][column] == want
                except AtWar:
                    forced = True
                self.assertEqual(follows(columns, rules, (given, column, want)), forced)

    def test_tables_against_are_fillings(self):
        for seed in range(200):
            columns, rules, _, _, _ = made(seed)
            rule = made_rule(random.Random(seed), columns)
            table = against(columns, rules, rule)
            if table is not None:
                self.assertTrue(is_filling(columns, rules, table, filling(columns, rules, table)))
                self.assertEqual(blames(columns, rules, table), [])
                self.assertNotEqual(blames(columns, rules + (rule,), table), [])

    def test_found_rules_change_nothing(self):
        """A table with the rules that were found in it is mended already."""
        for seed in range(60):
            columns, _, small, costs, pinned = made(seed)
            found = tuple(found_rules(columns, small, 1))[:8]
            self.assertEqual(price(columns, found, small, costs, pinned), 0)
            self.assertEqual(mend(columns, found, small, costs, pinned), small)


class Prices(unittest.TestCase):
    """Points 7, 8 and 26."""

    def test_breaks_peace_and_prices(self):
        told = {}
        for seed in range(400):
            columns, rules, small, costs, _ = made(seed)
            least, out = price(columns, rules, small, costs, ()), fewest_out(columns, rules, small)
            self.assertEqual(least == 0, breaks(columns, rules, small) == [])
            if least is None:
                self.assertIsNone(peaceful_row(columns, rules))
                self.assertGreater(len(small), 0)
            else:
                # The rows that a mend changes may be left out; and those may become like a row that is left.
                self.assertLessEqual(len(out) * min(costs), least)
                self.assertLessEqual(least, len(out) * sum(costs))
            key = "none" if least is None else least > 0
            told[key] = told.get(key, 0) + 1
        self.assertGreater(min(told.values()), 15)

    def test_pins_never_make_it_cheaper(self):
        for seed in range(150):
            columns, rules, small, costs, pinned = made(seed)
            least = price(columns, rules, small, costs, ())
            more = price(columns, rules, small, costs, pinned)
            self.assertTrue(more is None or least <= more)
            table = mend(columns, rules, small, costs, pinned)
            if table is not None:
                self.assertEqual(price(columns, rules, table, costs, all_cells(table)), 0)
                self.assertIn(differing(small, table), least_corrections(columns, rules, small))


class WhatFollows(unittest.TestCase):
    """Points 11, 14, 25 and 28: covers and rules that follow change no blame, correction, price or fate."""

    def shown(self, columns, rules, small, costs, pinned):
        record = lists_record(columns, rules, small)
        return ([some for some, _ in record[4]], [some for some, _ in record[5]], blames(columns, rules, small),
                least_corrections(columns, rules, small), price(columns, rules, small, costs, pinned),
                fates(columns, rules, small, costs, pinned))

    def test_made(self):
        changed = [0, 0, 0]
        for seed in range(250):
            columns, rules, *rest = made(seed)
            right = self.shown(columns, rules, *rest)
            rule = made_rule(random.Random(seed + 1), columns)
            others = [None, None, None]
            if follows(columns, rules, rule):
                others[0] = rules + (rule,)
            if peaceful_row(columns, rules) is not None:
                others[1] = cover(columns, rules)
            for k in needless(columns, rules)[:1]:
                others[2] = rules[:k] + rules[k + 1:]
            for k, other in enumerate(others):
                if other is not None:
                    self.assertEqual(self.shown(columns, other, *rest), right)
                    changed[k] += right[0] != []
        self.assertGreater(min(changed), 25)


class Views(unittest.TestCase):
    """Point 17: the views of all fillings and mends keep the rules that follow over them."""

    def test_made(self):
        told = 0
        for seed in range(400):
            dice = random.Random(seed)
            columns, rules, small, costs, pinned = made(seed)
            view = made_view(dice, columns)
            rule = made_rule(dice, (None,) * len(view[0][1]))
            if view_follows(columns, rules, view, rule):
                for table in [mend(columns, rules, small, costs, pinned),
                              filling(columns, rules, draft_of(small, pinned)),
                              filling(columns, rules, ((None,) * len(columns),) * 3)]:
                    if table is not None:
                        self.assertTrue(oracle.rule_holds(rule, view_rows(columns, view, table)))
                        told += len(view_rows(columns, view, table)) > 1
        self.assertGreater(told, 60)


class Found(unittest.TestCase):
    def test_drafts_of_tables(self):
        """A table is a filling of each draft that comes from it, with all rules that hold in it."""
        for seed in range(100):
            dice = random.Random(seed)
            columns = made_columns(seed, 3)
            table = made_table(dice, columns, 3)
            rules = tuple([rule for rule in made_rules(dice, columns, 8) if oracle.rule_holds(rule, table)])
            for share in (0.2, 0.6, 1):
                draft = draft_of(table, made_some(dice, table, share))
                self.assertIsNone(draft_war(columns, rules, draft))
                forced = forced_cells(columns, rules, draft)
                self.assertTrue(is_filling(columns, rules, forced, table))


if __name__ == "__main__":
    unittest.main()
