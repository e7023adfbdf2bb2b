"""The first paragraphs of the interface: wrong arguments; and point 2: unchanged ones, equal results, new lists."""

import random
import unittest

from whererules.blames import blames, can_stand, least_corrections
from whererules.breaks import breaks, count_tree, fewest_out, holds, is_count_tree
from whererules.columns import is_columns, is_row, is_table
from whererules.covers import cover, is_cover, more_general, needless
from whererules.drafts import draft_war, filling, forced_cells, is_draft, is_draft_war
from whererules.errors import AtWar
from whererules.fates import fates
from whererules.finding import found_rules
from whererules.fixes import fix, next_steps, run
from whererules.following import against, follows, is_tree, tree
from whererules.mends import cheaper_mend, is_price_tree, mend, price, price_tree
from whererules.peace import is_war, peaceful_row, war
from whererules.records import blame_record, correction_record, fate_record, forced_record, lists_record
from whererules.rules import is_rule, is_rules, matches
from whererules.splits import is_enough, is_stuck, least_sets, settles, stuck
from whererules.starts import least_starts, stop
from whererules.views import is_view, view_against, view_follows, view_rows, view_trees

import oracle
import oracle_drafts
import oracle_fixes
import oracle_mends
import oracle_views
from samples import (
    left_alone, made_columns, made_draft, made_rule, made_rules, made_row, made_small, made_some, made_table, made_view,
    renewed, same)
from wrong import COLUMNS, RIGHT, WRONG, check_any_wrong, check_first_wrong

FUNCTIONS = [
    (is_columns, ["value"]),
    (is_row, ["columns", "value"]),
    (is_table, ["columns", "value"]),
    (is_rule, ["columns", "value"]),
    (is_rules, ["columns", "value"]),
    (matches, ["columns", "rule", "row"]),
    (breaks, ["columns", "rules", "table"]),
    (holds, ["columns", "rule", "table"]),
    (fewest_out, ["columns", "rules", "table"]),
    (count_tree, ["columns", "rules", "table"]),
    (is_count_tree, ["columns", "rules", "table", "number", "value"]),
    (peaceful_row, ["columns", "rules"]),
    (war, ["columns", "rules"]),
    (is_war, ["columns", "rules", "value"]),
    (follows, ["columns", "rules", "rule"]),
    (tree, ["columns", "rules", "rule"]),
    (against, ["columns", "rules", "rule"]),
    (is_tree, ["columns", "rules", "rule", "value"]),
    (is_enough, ["columns", "rules", "rule", "cells"]),
    (stuck, ["columns", "rules", "rule", "cells"]),
    (is_stuck, ["columns", "rules", "rule", "cells", "value"]),
    (least_sets, ["columns", "rules", "rule"]),
    (settles, ["columns", "rules", "given"]),
    (more_general, ["columns", "rule", "other_rule"]),
    (needless, ["columns", "rules"]),
    (cover, ["columns", "peaceful"]),
    (is_cover, ["columns", "peaceful", "value"]),
    (found_rules, ["columns", "table", "number"]),
    (is_view, ["columns", "value"]),
    (view_rows, ["columns", "view", "table"]),
    (view_follows, ["columns", "rules", "view", "view_rule"]),
    (view_trees, ["columns", "rules", "view", "view_rule"]),
    (view_against, ["columns", "rules", "view", "view_rule"]),
    (next_steps, ["columns", "rules", "master", "row", "settled"]),
    (run, ["columns", "rules", "master", "row", "settled"]),
    (fix, ["columns", "rules", "master", "row", "settled"]),
    (stop, ["columns", "peaceful", "sound", "row_number", "settled"]),
    (least_starts, ["columns", "peaceful", "sound", "row_number"]),
    (is_draft, ["columns", "value"]),
    (filling, ["columns", "rules", "draft"]),
    (draft_war, ["columns", "rules", "draft"]),
    (is_draft_war, ["columns", "rules", "draft", "value"]),
    (forced_cells, ["columns", "rules", "draft"]),
    (can_stand, ["columns", "rules", "small", "some"]),
    (blames, ["columns", "rules", "small"]),
    (least_corrections, ["columns", "rules", "small"]),
    (price, ["columns", "rules", "small", "costs", "pinned"]),
    (mend, ["columns", "rules", "small", "costs", "pinned"]),
    (price_tree, ["columns", "rules", "small", "costs", "pinned", "waived", "integer"]),
    (cheaper_mend, ["columns", "rules", "small", "costs", "pinned", "waived", "integer"]),
    (is_price_tree, ["columns", "rules", "small", "costs", "pinned", "waived", "integer", "value"]),
    (fates, ["columns", "rules", "small", "costs", "pinned"]),
    (forced_record, ["columns", "rules", "draft", "draft_cell"]),
    (lists_record, ["columns", "rules", "small"]),
    (blame_record, ["columns", "rules", "small", "some"]),
    (correction_record, ["columns", "rules", "small", "some"]),
    (fate_record, ["columns", "rules", "small", "costs", "pinned", "small_cell"]),
]
LISTS = [
    breaks, least_sets, needless, found_rules, view_trees, next_steps, run, stop, least_starts, blames,
    least_corrections]


def is_right(name, value):
    """Whether the value is right as the argument of this name, for COLUMNS and the right rule."""
    if name == "columns":
        return oracle.right_columns(value)
    if name == "number":
        return oracle.integer(value) and 1 <= value <= 8
    if name == "cells":
        return any(same(value, cells) for cells in oracle.subsets(oracle.closed_cells(COLUMNS, RIGHT["rule"])))
    judges = {
        "rules": oracle.right_rules, "peaceful": oracle.right_rules, "rule": oracle.right_rule,
        "other_rule": oracle.right_rule, "row": oracle.right_row, "table": oracle.right_table,
        "given": oracle.right_given, "view": oracle_views.right_view, "master": oracle.right_table,
        "sound": oracle.right_table, "settled": oracle_fixes.right_settled, "draft": oracle_drafts.right_draft,
        "small": oracle_drafts.right_small, "costs": oracle_mends.right_costs}
    if name == "row_number":
        return oracle.below(value, len(RIGHT["sound"]))
    if name == "view_rule":
        return oracle_views.right_view_rule(RIGHT["view"], value)
    if name in ("some", "pinned", "waived"):
        return oracle_drafts.right_some(RIGHT["small"], value)
    if name in ("draft_cell", "small_cell"):
        return oracle_drafts.right_cell(RIGHT[name[:5]], value)
    if name == "integer":
        return oracle.integer(value)
    return judges[name](COLUMNS, value)


def made_peaceful(dice, columns):
    """Rules that are at peace."""
    rules = ()
    for rule in made_rules(dice, columns, 4):
        if oracle.kept_by_a_row(columns, rules + (rule,)):
            rules += (rule,)
    return rules


def made_sound(dice, columns, rules):
    """A table with at least one row in which the rules hold, which are at peace."""
    rows = oracle.rows_over(columns, rules)
    dice.shuffle(rows)
    table = ()
    for row in rows:
        if len(table) < 5 and oracle.all_hold(rules, table + (row,)):
            table += (row,)
    return table


def made_arguments(dice, seed, names):
    """Right arguments of these names."""
    columns = made_columns(seed, 3)
    rule, view = made_rule(dice, columns), made_view(dice, columns)
    peaceful = made_peaceful(dice, columns)
    sound = made_sound(dice, columns, peaceful)
    more = random.Random(seed + 1)
    # A row at least, so that there is a cell.
    row = (made_row(more, columns),)
    small, draft = made_small(more, columns) or row, made_draft(more, columns, 8) or row
    pinned = made_some(more, small, 0.3)
    made = {
        "view": view, "view_rule": made_rule(dice, (None,) * len(view[0][1])), "other_rule": made_rule(dice, columns),
        "peaceful": peaceful, "sound": sound, "row_number": dice.randrange(len(sound)),
        "master": made_table(dice, columns, 5), "settled": dice.choice(oracle.subsets(tuple(range(len(columns))))),
        "columns": columns, "rules": made_rules(dice, columns, 4), "rule": rule, "row": made_row(dice, columns),
        "table": made_table(dice, columns, 5), "number": dice.randint(1, 8),
        "given": made_rule(dice, columns)[0], "cells": dice.choice(oracle.subsets(oracle.closed_cells(columns, rule))),
        "draft": draft, "small": small, "some": made_some(more, small), "pinned": pinned,
        "waived": tuple([cell for cell in made_some(more, small) if cell not in pinned]),
        "draft_cell": more.choice(oracle_drafts.all_cells(draft)),
        "small_cell": more.choice(oracle_drafts.all_cells(small)),
        "integer": more.choice([-1, 0, 1, 2, 5, 9, 500]), "costs": tuple([more.randint(1, 9) for _ in columns]),
        "value": dice.choice([("clash",), ("goal",), ("step", 0, 0, ("goal",)), (), rule, columns, [(0, 1)]]),
    }
    return [made[name] for name in names]


class WrongArguments(unittest.TestCase):
    def test_the_wrong_ones_are_wrong(self):
        for name in WRONG:
            self.assertTrue(is_right(name, RIGHT[name]), name)
            for value in WRONG[name][1]:
                self.assertFalse(is_right(name, value), (name, value))

    def test_first_wrong(self):
        for function, names in FUNCTIONS:
            with self.subTest(function=function.__name__):
                check_first_wrong(self, function, names)

    def test_any_wrong(self):
        for function, names in FUNCTIONS:
            with self.subTest(function=function.__name__):
                check_any_wrong(self, function, names, is_right)

    def test_arguments_are_checked_for_the_columns(self):
        rules, table = (((), 1, 5),), ((0, 5),)
        self.assertEqual(breaks((None, None), rules, table), [])
        self.assertEqual(breaks((None, (4, 5)), rules, table), [])
        with self.assertRaises(WRONG["rules"][0]):
            breaks((None, (4,)), rules, table)
        with self.assertRaises(WRONG["table"][0]):
            breaks((None, (4,)), (), table)


class Unchanged(unittest.TestCase):
    def test_right_arguments(self):
        for function, names in FUNCTIONS:
            for seed in range(25):
                arguments = made_arguments(random.Random(seed), seed, names)
                told, unchanged = left_alone(function, arguments)
                self.assertTrue(unchanged, function)
                self.assertFalse(isinstance(told, Exception) and not isinstance(told, AtWar))

    def test_wrong_arguments(self):
        for function, names in FUNCTIONS:
            for place, name in enumerate(names):
                for value in WRONG.get(name, (None, [[0], [(0, [1])], ("split", 0, 1, [("clash",)])]))[1]:
                    arguments = [RIGHT[other] for other in names]
                    arguments[place] = value
                    self.assertTrue(left_alone(function, arguments)[1], function)


def told_by(function, arguments):
    """What the function returns, or the tree of the war that it raises."""
    try:
        return function(*arguments)
    except AtWar as error:
        return ("at war", error.tree)


class EqualResults(unittest.TestCase):
    def test_equal_arguments(self):
        for function, names in FUNCTIONS:
            for seed in range(40):
                arguments = made_arguments(random.Random(seed), seed, names)
                self.assertTrue(same(told_by(function, arguments), told_by(function, renewed(arguments))), function)

    def test_results_in_between_change_nothing(self):
        made = []
        for function, names in FUNCTIONS:
            for seed in range(10):
                arguments = made_arguments(random.Random(seed), seed, names)
                made.append((function, arguments, repr(told_by(function, arguments))))
        for function, arguments, told in reversed(made):
            self.assertEqual(repr(told_by(function, arguments)), told)

    def test_lists_are_new(self):
        several = dict.fromkeys(LISTS, 0)
        for function, names in FUNCTIONS:
            for seed in range(40):
                arguments = made_arguments(random.Random(seed), seed, names)
                first, second = told_by(function, arguments), told_by(function, arguments)
                self.assertFalse(isinstance(first, list) and function not in LISTS)
                if function in LISTS and first is not None:
                    self.assertIs(first.__class__, list)
                    self.assertIsNot(first, second)
                    first.append("more")
                    self.assertEqual(second, told_by(function, arguments))
                    several[function] += len(second) > 0
        self.assertTrue(all(many > 1 for many in several.values()), several)


if __name__ == "__main__":
    unittest.main()
