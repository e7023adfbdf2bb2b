"""Point 22: certificates."""

import random
import time
import unittest

from whererules.breaks import count_tree, fewest_out
from whererules.checker import check
from whererules.covers import cover
from whererules.errors import InvalidColumns, InvalidRules, NotACertificate, NotAtPeace
from whererules.fixes import fix, run
from whererules.following import against, tree
from whererules.peace import peaceful_row, war
from whererules.splits import least_sets, stuck

import oracle
from oracle_checker import FORMS, LENGTHS, conditions_of, first_wrong
from samples import (
    any_values, bends, left_alone, made_columns, made_row, made_rule, made_rules, made_table, nested, renewed, same, shared)
from wrong import WRONG, assert_raises

COLUMNS = (None, None, (0, 1))
RULES = ((((0, 44),), 2, 1), (((1, None), (2, 1)), 0, None))
TABLE = ((44, 7, 1), (44, 8, 0), (1, 7, 1))
RULE = (((0, 44), (1, None)), 2, None)
TREE = ("step", 0, 0, ("step", 0, 1, ("goal",)))
NO_WAR = (((), 2, 0), ((), 2, 1))
STUCK_RULE = (((0, 44),), 1, None)
STAND = (((44, None, 1), (44, None, 1)), (0, 2))
COUNT = ((0, 1), (((1, 0, 2), ()),))
PARTS = [[(1, 0, 1)], [(1, 0, 44)]]
START = (TABLE, (9, 7, 1), (1, 2))
FIXED = (TABLE, (44, 7, 0), (0,))
RUN = [(0, 2, 1)]
GUARDS = ((1, (0, 2)), (2, (0,)))
HALVES = ((((0, 0),), 1, None), (((0, 1),), 1, None))
FIVES = (((), 0, 5), ((), 1, 5))

RIGHT = [
    ("row", COLUMNS, RULES, (1, 1, 0)), ("war", COLUMNS, NO_WAR, ("step", 0, 0, ("step", 1, 0, ("clash",)))),
    ("tree", COLUMNS, RULES, RULE, TREE), ("count", COLUMNS, RULES, TABLE, 2, COUNT),
    ("count", COLUMNS, RULES, TABLE, 1, ((0, 1), ())), ("count", COLUMNS, RULES, TABLE, 1, ((1, 0, 2), ())),
    ("stuck", COLUMNS, RULES, STUCK_RULE, (), STAND), ("stuck", COLUMNS, RULES, STUCK_RULE, ((0, 2), (1, 2)), STAND),
    ("against", COLUMNS, RULES, STUCK_RULE, ((44, 1, 1), (44, 2, 1))), ("against", COLUMNS, RULES, ((), 2, 1), ((1, 1, 0),)),
    ("cover", COLUMNS, RULES, RULES), ("cover", COLUMNS, (), ()), ("run", COLUMNS, RULES) + FIXED + (RUN,),
    ("run", COLUMNS, RULES) + START + (PARTS[0],), ("alike", COLUMNS, RULES) + FIXED + (RUN, GUARDS),
    ("parts", COLUMNS, RULES) + START + tuple(PARTS)]

# A certificate and the first of its conditions that does not hold.
WRONG_ONES = [
    (("row", COLUMNS, RULES, (1, 1, 2)), 0), (("row", COLUMNS, RULES, (44, 1, 2)), 0), (("row", COLUMNS, RULES, (44, 1)), 0),
    (("row", COLUMNS, RULES, [1, 1, 0]), 0), (("row", COLUMNS, RULES, (44, 1, 0)), 1),
    (("war", COLUMNS, NO_WAR, ("step", 0, 0, ("clash",))), 0), (("war", COLUMNS, NO_WAR, ("goal",)), 0),
    (("war", COLUMNS, NO_WAR, ("step", 0, 1, ("step", 1, 1, ("clash",)))), 0),
    (("war", COLUMNS, NO_WAR, ("step", 0, 0, ("step", 1, 1, ("clash",)))), 0), (("war", COLUMNS, RULES, ("clash",)), 0), (("war", COLUMNS, NO_WAR, None), 0),
    (("tree", COLUMNS, RULES, RULE[:2], TREE), 0), (("tree", COLUMNS, RULES, (((0, 44),), 2, 2), TREE), 0),
    (("tree", COLUMNS, RULES, RULE, ("goal",)), 1), (("tree", COLUMNS, RULES, (((0, 45),), 2, 1), TREE), 1),
    (("count", COLUMNS, RULES, TABLE * 3, 0, None), 0), (("count", COLUMNS, RULES, list(TABLE), 2, COUNT), 0),
    (("count", COLUMNS, RULES, TABLE, 0, COUNT), 1), (("count", COLUMNS, RULES, TABLE, 9, COUNT), 1),
    (("count", COLUMNS, RULES, TABLE, True, ((0, 1), ())), 1), (("count", COLUMNS, RULES, TABLE, None, COUNT), 1),
    (("count", COLUMNS, RULES, TABLE, 1, COUNT), 2), (("count", COLUMNS, RULES, TABLE, 3, COUNT), 2),
    (("count", COLUMNS, RULES, TABLE, 8, COUNT), 2), (("count", COLUMNS, RULES, TABLE, 2, COUNT[:1]), 2),
    (("stuck", COLUMNS, RULES, None, None, None), 0), (("stuck", COLUMNS, RULES, STUCK_RULE, ((1, 2), (0, 2)), STAND), 1),
    (("stuck", COLUMNS, RULES, STUCK_RULE, ((0, 0),), STAND), 1), (("stuck", COLUMNS, RULES, STUCK_RULE, [], STAND), 1),
    (("stuck", COLUMNS, RULES, STUCK_RULE, ((0, 2), (0, 2)), STAND), 1),
    (("stuck", COLUMNS, RULES, STUCK_RULE, ((False, 2),), STAND), 1), (("stuck", COLUMNS, RULES, STUCK_RULE, (), ()), 2),
    (("stuck", COLUMNS, RULES, STUCK_RULE, (), (((44, None, 1), (44, None, 1)), (2,))), None),
    (("stuck", COLUMNS, RULES, STUCK_RULE, (), (((44, None, 1), (44, None, 1)), (0, 1, 2))), 2),
    (("stuck", COLUMNS, RULES, STUCK_RULE, (), (((44, None, None), (44, None, 1)), (0,))), 2),
    (("stuck", COLUMNS, RULES, RULE, (), STAND), 2),
    (("against", COLUMNS, RULES, ((), 2), ()), 0), (("against", COLUMNS, RULES, STUCK_RULE, ((44, 1, 1),)), 1),
    (("against", COLUMNS, RULES, STUCK_RULE, ((44, 1, 1), (44, 2, 1), (1, 1, 0))), 1),
    (("against", COLUMNS, RULES, ((), 2, 1), ((1, 1, 0), (1, 1, 0))), 1), (("against", COLUMNS, RULES, ((), 2, 1), ()), 1),
    (("against", COLUMNS, RULES, STUCK_RULE, ((44, 1, 2), (44, 2, 1))), 1),
    (("against", COLUMNS, RULES, STUCK_RULE, [(44, 1, 1), (44, 2, 1)]), 1),
    (("against", COLUMNS, RULES, STUCK_RULE, ((44, 1, 0), (44, 2, 1))), 2),
    (("against", COLUMNS, RULES, ((), 2, 1), ((44, 1, 0),)), 2),
    (("against", COLUMNS, RULES, STUCK_RULE, ((44, 1, 1), (44, 1, 1))), 3),
    (("against", COLUMNS, RULES, ((), 2, 1), ((44, 1, 1),)), 3),
    (("cover", COLUMNS, RULES, RULES * 5), 0), (("cover", COLUMNS, RULES, list(RULES)), 0), (("cover", COLUMNS, RULES, None), 0),
    (("cover", COLUMNS, RULES, RULES[:1] + (None,)), 0), (("cover", COLUMNS, RULES, RULES[1:]), 1),
    (("cover", COLUMNS, RULES, ()), 1), (("cover", COLUMNS, RULES[:1], RULES), 2), (("cover", COLUMNS, (), RULES), 2),
    (("cover", COLUMNS, RULES, (((), 2, 1), RULES[1])), 2), (("cover", COLUMNS, RULES, RULES + RULES[1:]), 3),
    (("cover", COLUMNS, RULES, RULES + (RULE,)), 3),
    (("cover", (None, None), (((), 0, 1), (((0, 1),), 1, 2)), (((), 0, 1), (((0, 1),), 1, 2))), 4),
    (("cover", (None, None), (((), 0, 1), (((0, None),), 1, None)), (((), 0, 1), (((0, None),), 1, None))), 4),
    (("cover", ((0, 1), None), HALVES, HALVES), 4), (("cover", (None, None), HALVES, HALVES), None),
    (("run", COLUMNS, RULES, TABLE * 3, 0, 0, 0), 0), (("run", COLUMNS, RULES, TABLE, (44, 7, 2), (0,), RUN), 1),
    (("run", COLUMNS, RULES, TABLE, (44, 7, 0), (1, 0), RUN), 2), (("run", COLUMNS, RULES, TABLE, (44, 7, 0), [0], RUN), 2),
    (("run", COLUMNS, RULES) + FIXED + (tuple(RUN),), 3), (("run", COLUMNS, RULES) + FIXED + ([list(RUN[0])],), 3),
    (("run", COLUMNS, RULES) + FIXED + (RUN + RUN,), 3), (("run", COLUMNS, RULES) + FIXED + ([(0, 2, 0)],), 3),
    (("run", COLUMNS, RULES) + FIXED + ([(0, 2, True)],), 3), (("run", COLUMNS, RULES) + FIXED + ([(False, 2, 1)],), 3),
    (("run", COLUMNS, RULES) + FIXED + ([(1, 2, 1)],), 3), (("run", COLUMNS, RULES) + FIXED + (None,), 3),
    (("run", COLUMNS, RULES) + FIXED + ([],), 4), (("run", COLUMNS, RULES) + START + ([],), 4),
    (("alike", COLUMNS, RULES, None, None, None, None, None), 0), (("alike", COLUMNS, RULES, TABLE, None, None, None, None), 1),
    (("alike", COLUMNS, RULES, TABLE, (44, 7, 0), (0, 0), RUN, GUARDS), 2), (("alike", COLUMNS, RULES) + FIXED + ([], GUARDS), 3),
    (("alike", COLUMNS, RULES) + FIXED + (RUN + RUN, GUARDS), 3), (("alike", COLUMNS, RULES) + FIXED + (RUN, None), 4),
    (("alike", COLUMNS, RULES) + FIXED + (RUN, list(GUARDS)), 4), (("alike", COLUMNS, RULES) + FIXED + (RUN, GUARDS[::-1]), 4),
    (("alike", COLUMNS, RULES) + FIXED + (RUN, GUARDS[:1]), 4), (("alike", COLUMNS, RULES) + FIXED + (RUN, ((0, ()),) + GUARDS), 4),
    (("alike", COLUMNS, RULES) + FIXED + (RUN, ((True, (0, 2)), GUARDS[1])), 4),
    (("alike", COLUMNS, RULES) + FIXED + (RUN, ([1, (0, 2)], GUARDS[1])), 4),
    (("alike", COLUMNS, RULES) + FIXED + (RUN, (GUARDS[0], (2, (0,), 0))), 4),
    (("alike", COLUMNS, RULES) + FIXED + (RUN, ((1, None), GUARDS[1])), 5),
    (("alike", COLUMNS, RULES) + FIXED + (RUN, ((1, (0,)), GUARDS[1])), 5),
    (("alike", COLUMNS, RULES) + FIXED + (RUN, ((1, (0, 1, 2)), GUARDS[1])), 5),
    (("alike", COLUMNS, RULES) + FIXED + (RUN, ((1, (2,)), GUARDS[1])), 5),
    (("alike", COLUMNS, RULES) + FIXED + (RUN, ((1, (False, 2)), GUARDS[1])), 5),
    (("alike", COLUMNS, RULES) + FIXED + (RUN, ((1, (2, 0)), GUARDS[1])), 5),
    (("alike", COLUMNS, RULES) + FIXED + (RUN, ((1, (0, 2)), (2, (0, 1)))), 5),
    (("alike", COLUMNS, RULES) + FIXED + (RUN, ((1, (0, 2)), (2, (0, 2)))), 5),
    (("alike", COLUMNS, RULES) + START + (PARTS[0], ((0, (1, 2)),)), 5),
    # the other column is settled to the very value that the guarded one has at the end
    (("alike", (None, None), FIVES, (), (0, 0), (), [(0, 0, 5), (1, 1, 5)], ((0, ()), (1, (0,)))), 5),
    (("alike", (None, None), FIVES, (), (0, 0), (), [(0, 0, 5), (1, 1, 5)], ((0, (1,)), (1, (0,)))), None),
    (("parts", COLUMNS, RULES, (), (9, 7), (), [], []), 1), (("parts", COLUMNS, RULES, [], (9, 7), (), [], []), 0),
    (("parts", COLUMNS, RULES, TABLE, (9, 7, 1), (2, 1)) + tuple(PARTS), 2),
    (("parts", COLUMNS, RULES) + START + ([], PARTS[1]), 3), (("parts", COLUMNS, RULES) + START + (PARTS[0], []), 3),
    (("parts", COLUMNS, RULES) + START + (PARTS[0], tuple(PARTS[1])), 3),
    (("parts", COLUMNS, RULES) + START + (PARTS[0], [(1, 0, 9)]), 3), (("parts", COLUMNS, RULES) + START + (None, None), 3),
    # two orders of the same steps
    (("parts", (None, None), (((), 0, 5), ((), 1, 6)), (), (0, 0), (), [(0, 0, 5), (1, 1, 6)], [(1, 1, 6), (0, 0, 5)]), 4),
    (("parts", COLUMNS, RULES) + START + (PARTS[0], PARTS[0]), 4), (("parts", COLUMNS, RULES) + FIXED + (RUN, RUN), 4),
]


def made_certificates(seed):
    """Right certificates, made by the functions of the package."""
    dice = random.Random(seed)
    columns = made_columns(seed, 3)
    rules, rule, table = made_rules(dice, columns, 6), made_rule(dice, columns), made_table(dice, columns, 6)
    start = (columns, rules)
    row = peaceful_row(columns, rules)
    if row is None:
        yield ("war",) + start + (war(columns, rules),)
    else:
        yield ("row",) + start + (row,)
        yield ("cover",) + start + (cover(columns, rules),)
    shown = tree(columns, rules, rule)
    if shown is None:
        yield ("against",) + start + (rule, against(columns, rules, rule))
        cells = dice.choice(oracle.subsets(oracle.closed_cells(columns, rule)))
        yield ("stuck",) + start + (rule, cells, stuck(columns, rules, rule, cells))
    else:
        yield ("tree",) + start + (rule, shown)
        for cells in least_sets(columns, rules, rule)[:1]:
            if cells:
                yield ("stuck",) + start + (rule, cells[1:], stuck(columns, rules, rule, cells[1:]))
    number = len(fewest_out(columns, rules, table))
    if number > 0:
        yield ("count",) + start + (table, number, count_tree(columns, rules, table))
    yield from made_runs(dice, columns, rules, table)


def made_runs(dice, columns, rules, table):
    """Right certificates of runs."""
    settled = tuple([column for column in range(len(columns)) if dice.random() < 0.4])
    start = (table, made_row(dice, columns), settled)
    steps = run(columns, rules, *start)
    told = fix(columns, rules, *start)
    yield ("run", columns, rules) + start + (steps,)
    if told[0] == "fixed":
        yield ("alike", columns, rules) + start + (steps, told[3])
    else:
        yield ("parts", columns, rules) + start + told[1:]


class Check(unittest.TestCase):
    def judge(self, certificate):
        """What the checker says; asserts that the conditions say the same."""
        told = check(certificate)
        self.assertTrue(same(told, first_wrong(conditions_of(certificate))), (certificate, told))
        return told

    def test_right(self):
        for certificate in RIGHT:
            self.assertEqual(self.judge(certificate), ("right",))
        self.assertEqual({certificate[0] for certificate in RIGHT}, set(FORMS))

    def test_each_condition(self):
        told = {}
        for certificate, number in WRONG_ONES:
            right = ("right",) if number is None else ("wrong", number)
            self.assertEqual(self.judge(certificate), right, certificate)
            told[certificate[0]] = told.get(certificate[0], set()) | {number}
        most = {"row": 1, "war": 0, "tree": 1, "count": 2, "stuck": 2, "against": 3, "cover": 4, "run": 4, "alike": 5, "parts": 4}
        for form, last in most.items():
            self.assertLessEqual(set(range(last + 1)), told[form])

    def test_made(self):
        told = {}
        for seed in range(300):
            for certificate in made_certificates(seed):
                self.assertEqual(self.judge(certificate), ("right",), certificate)
                told[certificate[0]] = told.get(certificate[0], 0) + 1
        self.assertTrue(all(told.get(form, 0) > 5 for form in FORMS), told)

    def test_bent_by_hand(self):
        for certificate in RIGHT:
            for place in range(3, len(certificate)):
                for value in bends(certificate[place]):
                    self.judge(certificate[:place] + (value,) + certificate[place + 1:])

    def test_bent_lists(self):
        for certificate in RIGHT:
            for place in range(3, len(certificate)):
                if isinstance(certificate[place], list):
                    for value in bends(tuple(certificate[place])):
                        if isinstance(value, tuple):
                            self.judge(certificate[:place] + (list(value),) + certificate[place + 1:])

    def test_bent_made(self):
        wrong = {}
        for seed in range(90):
            dice = random.Random(seed)
            for certificate in made_certificates(seed):
                for _ in range(12):
                    place = dice.randrange(3, len(certificate))
                    part = certificate[place]
                    bent = list(bends(tuple(part) if isinstance(part, list) else part))
                    value = dice.choice(bent)
                    if isinstance(part, list) and isinstance(value, tuple) and dice.random() < 0.8:
                        value = list(value)
                    told = self.judge(certificate[:place] + (value,) + certificate[place + 1:])
                    wrong[told] = wrong.get(told, 0) + 1
        self.assertTrue(all(wrong.get(("wrong", number), 0) > 20 for number in range(5)), wrong)
        self.assertGreater(wrong.get(("right",), 0), 20)

    def test_entries_of_other_certificates(self):
        for seed in range(60):
            others = {certificate[0]: certificate for certificate in made_certificates(seed + 500)}
            for certificate in made_certificates(seed):
                if certificate[0] in others:
                    for place in range(3, len(certificate)):
                        entry = others[certificate[0]][place]
                        self.judge(certificate[:place] + (entry,) + certificate[place + 1:])

    def test_any_entries(self):
        deep = [shared(30), nested(120, tuple, TREE), nested(120, list, RUN), ("step", 0, 0, shared(30))]
        for certificate in RIGHT:
            for place in range(3, len(certificate)):
                for value in any_values() + deep:
                    self.judge(certificate[:place] + (value,) + certificate[place + 1:])


class Errors(unittest.TestCase):
    def test_no_certificate(self):
        for value in any_values() + [shared(30), ("row",), ("rows", COLUMNS, RULES, (1, 1, 0)), ("", 0, 0, 0)]:
            assert_raises(self, NotACertificate, check, (value,))
            assert_raises(self, NotACertificate, check, ((value, COLUMNS, RULES, (1, 1, 0)),))
        for certificate in RIGHT:
            for form in FORMS:
                if LENGTHS[form] != len(certificate):
                    assert_raises(self, NotACertificate, check, ((form,) + certificate[1:],))
            assert_raises(self, NotACertificate, check, (list(certificate),))
            assert_raises(self, NotACertificate, check, (certificate + (None,),))
            assert_raises(self, NotACertificate, check, (certificate[:-1],))
            assert_raises(self, NotACertificate, check, ((certificate[0].upper(),) + certificate[1:],))
            assert_raises(self, NotACertificate, check, (([certificate[0]],) + certificate[1:],))
            assert_raises(self, NotACertificate, check, (certificate[:-1] + (COLUMNS, None),))

    def test_columns_and_rules(self):
        for certificate in RIGHT:
            rest = certificate[3:]
            for columns in WRONG["columns"][1] + any_values():
                if not oracle.right_columns(columns):
                    for rules in [RULES, None, RULES * 5]:
                        assert_raises(self, InvalidColumns, check, (certificate[:1] + (columns, rules) + rest,))
            for rules in WRONG["rules"][1] + any_values():
                if not oracle.right_rules(COLUMNS, rules):
                    for more in [rest, (None,) * len(rest)]:
                        assert_raises(self, InvalidRules, check, (certificate[:1] + (COLUMNS, rules) + more,))

    def test_not_at_peace(self):
        for value in any_values() + [NO_WAR, (), RULES]:
            assert_raises(self, NotAtPeace, check, (("cover", COLUMNS, NO_WAR, value),))
        for form in FORMS:
            if form != "cover":
                told = check((form, COLUMNS, NO_WAR) + (None,) * (LENGTHS[form] - 3))
                self.assertEqual(told, ("wrong", 0))


class General(unittest.TestCase):
    def test_unchanged_and_equal(self):
        for certificate in RIGHT + [certificate for certificate, _ in WRONG_ONES]:
            told, unchanged = left_alone(check, [certificate])
            self.assertTrue(unchanged)
            self.assertTrue(same(told, check(renewed(certificate))))

    def test_time(self):
        columns = ((0, 1, 2), (0, 1, 2), None, None)
        rules = tuple([(((0, k // 3), (1, k % 3)), 2, 5) for k in range(8)])
        start = time.monotonic()
        self.assertEqual(check(("cover", columns, rules, cover(columns, rules))), ("right",))
        table = tuple([(k // 3, k % 3, 6, k) for k in range(8)])
        shown = count_tree(columns, rules, table)
        self.assertEqual(check(("count", columns, rules, table, 8, shown)), ("right",))
        pairs = ((((2, None),), 3, None), (((3, None),), 2, None)) * 4
        table = tuple([(0, 0, k % 2, k) for k in range(8)])
        number = len(fewest_out(columns, pairs, table))
        self.assertEqual(check(("count", columns, pairs, table, number, count_tree(columns, pairs, table))), ("right",))
        self.assertLess(time.monotonic() - start, 5)


if __name__ == "__main__":
    unittest.main()
