"""Point 14: general rules and covers."""

import random
import time
import unittest
from itertools import product

from whererules.covers import cover, is_cover, more_general, needless
from whererules.errors import InvalidColumns, InvalidRule, InvalidRules, InvalidValue, NotAtPeace

import oracle
from oracle_covers import all_rules, cover_judged, is_more_general
from samples import any_values, bends, made_columns, made_rules
from wrong import assert_raises

COLUMNS = (None, None, (0, 1))
RULES = ((((0, 44),), 2, 1), (((1, None), (2, 1)), 0, None))
TWO = ((0, 1), None)
WAR = (((), 0, 0), ((), 0, 1))
HALVES = ((((0, 0),), 1, None), (((0, 1),), 1, None))
GENERAL = [
    # a rule, another one, and whether the first is more general than the other
    ((((0, 44),), 2, 1), (((0, 44), (1, 7)), 2, 1), True),
    (((), 2, 1), (((0, 44), (1, 7)), 2, 1), True),
    ((((0, 44), (1, 7)), 2, 1), (((0, 44),), 2, 1), False),
    ((((0, 44), (1, 7)), 2, 1), (((0, 44), (1, 7)), 2, 1), False),
    (((), 2, None), ((), 2, None), False),
    ((((0, 44),), 2, 0), (((0, 44), (1, 7)), 2, 1), False),
    ((((0, 44),), 2, None), (((0, 44), (1, 7)), 2, 1), False),
    ((((0, 44),), 2, 1), (((0, 44), (1, 7)), 2, None), False),
    (((), 2, None), (((0, 44), (1, 7)), 2, 1), False),
    ((((1, 7),), 0, 1), (((1, 7), (2, 1)), 0, 1), True),
    (((), 0, 1), (((0, 1),), 1, 1), False),
    ((((0, 45),), 2, 1), (((0, 44), (1, 7)), 2, 1), False),
    ((((0, 1),), 2, 1), (((1, 1),), 2, 1), False),
    ((((0, 44), (1, 7)), 2, 1), (((0, 44), (1, 8)), 2, 1), False),
    # pair rules, with entries made blank
    ((((0, None),), 2, None), (((0, 44),), 2, None), True),
    ((((0, 44),), 2, None), (((0, None),), 2, None), False),
    (((), 2, None), (((0, None),), 2, None), True),
    (((), 2, None), (((0, 44),), 2, None), True),
    ((((0, None),), 2, None), (((0, None),), 2, None), False),
    ((((0, None),), 2, None), (((0, 44), (1, 7)), 2, None), True),
    ((((0, None), (1, None)), 2, None), (((0, 44), (1, 7)), 2, None), True),
    ((((0, None), (1, 7)), 2, None), (((0, 44), (1, None)), 2, None), False),
    ((((0, 44), (1, None)), 2, None), (((0, 44), (1, 7)), 2, None), True),
    ((((0, 44), (1, None)), 2, None), (((0, 44), (1, None)), 2, None), False),
    ((((1, None),), 2, None), (((0, 44), (1, None)), 2, None), True),
    ((((1, None),), 2, None), (((0, 44),), 2, None), False),
    ((((0, None),), 2, None), ((), 2, None), False),
    ((((1, 7),), 2, None), (((0, 7),), 2, None), False),
]


def made(seed, most=5):
    dice = random.Random(seed)
    columns = made_columns(seed, 3)
    return columns, made_rules(dice, columns, most)


class MoreGeneral(unittest.TestCase):
    def test_by_hand(self):
        for rule, other, right in GENERAL:
            self.assertIs(more_general(COLUMNS, rule, other), right, (rule, other))

    def test_all_pairs_of_rules(self):
        columns = (None, (0, 1), None)
        rules = all_rules(columns, ((0, 1), (0, 1), (5,)))
        told = 0
        for rule, other in product(rules, rules):
            right = is_more_general(rule, other)
            self.assertIs(more_general(columns, rule, other), right, (rule, other))
            told += right
        self.assertGreater(told, 150)

    def test_the_other_one_follows(self):
        columns = (None, (0, 1), None)
        rules = all_rules(columns, ((0,), (0, 1), (5,)))
        for rule, other in product(rules, rules):
            if more_general(columns, rule, other):
                self.assertTrue(oracle.rule_follows(columns, (rule,), other), (rule, other))

    def test_errors(self):
        rule = RULES[1]
        wrong = [value for value in any_values() if not oracle.right_rule(COLUMNS, value)]
        self.assertGreater(len(wrong), 40)
        for value in wrong + list(bends(rule)):
            if not oracle.right_rule(COLUMNS, value):
                assert_raises(self, InvalidValue, more_general, (COLUMNS, rule, value))
                assert_raises(self, InvalidRule, more_general, (COLUMNS, value, rule))
                assert_raises(self, InvalidRule, more_general, (COLUMNS, value, value))
                assert_raises(self, InvalidColumns, more_general, ([], value, value))


class Needless(unittest.TestCase):
    def test_by_hand(self):
        rule = (((0, 44), (1, None)), 2, None)
        split = ((((0, 0),), 1, 5), (((0, 1),), 1, 5))
        for columns, rules, right in [
                (COLUMNS, RULES, []), (COLUMNS, RULES + (rule,), [2]), (COLUMNS, (rule,) + RULES, [0]),
                (COLUMNS, (), []), (COLUMNS, (rule,), []), (COLUMNS, (rule, rule), [0, 1]),
                (COLUMNS, RULES + RULES, [0, 1, 2, 3]), (COLUMNS, RULES + (rule, rule), [2, 3]),
                # only as the column is closed
                (TWO, split + (((), 1, 5),), [0, 1, 2]), ((None, None), split + (((), 1, 5),), [0, 1]),
                (((0, 1, 2), None), split + (((), 1, 5),), [0, 1]), (TWO, split + ((((0, None),), 1, None),), [2]),
                (((3,), None), (((), 0, 3),), [0]), (((3,), None), (((), 0, None), (((0, 3),), 1, 4)), [0]),
                # at war: all follow from two of them, but not from one
                (TWO, WAR, []), (TWO, WAR + (((), 1, 7),), [2]), (TWO, WAR + WAR, [0, 1, 2, 3])]:
            self.assertEqual(needless(columns, rules), right, (columns, rules))

    def test_against_all_tables(self):
        told = 0
        for seed in range(200):
            columns, rules = made(seed)
            right = [k for k in range(len(rules))
                     if oracle.rule_follows(columns, rules[:k] + rules[k + 1:], rules[k])]
            self.assertEqual(needless(columns, rules), right, (columns, rules))
            told += len(right)
        self.assertGreater(told, 60)


class Cover(unittest.TestCase):
    def test_by_hand(self):
        two = ((((0, 0),), 1, 5), (((0, 1),), 1, 5))
        for columns, rules, right in [
                (COLUMNS, (), ()), (TWO, two, (((), 1, 5),)), (TWO, two + two, (((), 1, 5),)),
                ((None, None), two, two), ((None, None), two + two, None), (((3,), None), (((), 0, 3),), ()),
                (((3,), None), ((((0, 3),), 1, 8),), (((), 1, 8),)),
                (((3,), None), ((((1, None),), 0, None),), ()), ((None,), (((), 0, None),) * 8, (((), 0, None),)),
                # a blank entry in the place of all values of a closed column, but not of some of them
                (TWO, HALVES, ((((0, None),), 1, None),)), (((0, 1, 2), None), HALVES, HALVES),
                ((None, None), (((), 0, 1), (((0, 1),), 1, 2)), (((), 0, 1), ((), 1, 2))),
                ((None, None), (((), 0, 1), (((0, 2),), 1, 2)), (((), 0, 1),)),
                ((None, None), (((), 0, 1), (((0, None),), 1, None)), (((), 0, 1), ((), 1, None)))]:
            told = cover(columns, rules)
            self.assertTrue(cover_judged(columns, rules, told), (columns, rules, told))
            if right is not None:
                self.assertEqual(sorted(told, key=repr), sorted(right, key=repr))

    def test_judged(self):
        calls, wars, shorter = 0, 0, 0
        for seed in range(200):
            columns, rules = made(seed, 8)
            if oracle.kept_by_a_row(columns, rules):
                told = cover(columns, rules)
                self.assertTrue(cover_judged(columns, rules, told), (columns, rules, told))
                self.assertIs(is_cover(columns, rules, told), True)
                calls, shorter = calls + 1, shorter + (len(told) < len(rules))
            else:
                wars += 1
                assert_raises(self, NotAtPeace, cover, (columns, rules))
                assert_raises(self, NotAtPeace, is_cover, (columns, rules, rules))
        self.assertTrue(calls > 80 and wars > 10 and shorter > 20, (calls, wars, shorter))

    def test_a_cover_of_a_cover(self):
        for seed in range(60):
            columns, rules = made(seed, 4)
            if oracle.kept_by_a_row(columns, rules):
                told = cover(columns, rules)
                self.assertIs(is_cover(columns, told, cover(columns, told)), True)

    def test_errors(self):
        assert_raises(self, NotAtPeace, cover, (TWO, WAR))
        assert_raises(self, InvalidRules, cover, (TWO, WAR * 5))
        assert_raises(self, InvalidColumns, cover, ([TWO], WAR))
        assert_raises(self, InvalidRules, is_cover, (TWO, WAR * 5, ()))
        for value in any_values() + [WAR, WAR * 5, ()]:
            assert_raises(self, NotAtPeace, is_cover, (TWO, WAR, value))


class IsCover(unittest.TestCase):
    def told(self, columns, rules, value):
        told = is_cover(columns, rules, value)
        self.assertIs(told, cover_judged(columns, rules, value), (columns, rules, value))
        return told

    def test_by_hand(self):
        first, second = RULES
        blank = (((0, None),), 1, None)
        special = (((1, None), (2, 1)), 0, None)
        for columns, rules, value, right in [
                (COLUMNS, RULES, RULES, True), (COLUMNS, RULES, RULES[::-1], True), (COLUMNS, RULES, RULES[:1], False),
                (COLUMNS, RULES, RULES[1:], False), (COLUMNS, RULES, (), False), (COLUMNS, RULES, RULES + RULES, False),
                (COLUMNS, RULES, RULES + RULES[:1], False), (COLUMNS, RULES, list(RULES), False),
                (COLUMNS, RULES, RULES * 5, False), (COLUMNS, (), (), True), (COLUMNS, (), RULES, False),
                # too special, too general, with another given
                (COLUMNS, RULES, ((((0, 44), (1, 7)), 2, 1), second), False), (COLUMNS, RULES, (((), 2, 1), second), False),
                (COLUMNS, RULES, ((((0, 45),), 2, 1), second), False), (COLUMNS, RULES, (first, (((1, None),), 0, None)), False),
                (COLUMNS, RULES, (first, (((1, 5), (2, 1)), 0, None)), False),
                (COLUMNS, ((((0, 44), (1, 7)), 2, 1), first), (first,), True),
                (COLUMNS, ((((0, 44), (1, 7)), 2, 1), first), ((((0, 44), (1, 7)), 2, 1), first), False),
                # a rule that is as special as the rules have it, while a more general one follows
                ((None, None), (((), 0, 1), (((0, 1),), 1, 2)), (((), 0, 1), (((0, 1),), 1, 2)), False),
                ((None, None), (((), 0, 1), blank), (((), 0, 1), blank), False),
                ((None, None), (((), 0, 1), blank), (((), 0, 1), ((), 1, None)), True),
                ((None, None), ((((0, 3),), 1, None), (((0, None),), 1, None)), ((((0, None),), 1, None),), True),
                (TWO, HALVES, HALVES, False), (TWO, HALVES, ((((0, None),), 1, None),), True),
                (((0, 1, 2), None), HALVES, HALVES, True),
                (COLUMNS, (special,), ((((1, None), (2, 1)), 0, None),), True)]:
            self.assertIs(self.told(columns, rules, value), right, (columns, rules, value))

    def test_nine_rules(self):
        rules = tuple([(((0, k),), 1, k) for k in range(8)])
        self.assertIs(is_cover((None, None), rules, rules), True)
        self.assertIs(is_cover((None, None), rules, rules[::-1]), True)
        self.assertIs(is_cover((None, None), rules, rules + rules[:1]), False)
        self.assertIs(is_cover((None, None), rules, rules[:7]), False)
        self.assertIs(is_cover((None, None), rules, rules[:7] + ((((0, 8),), 1, 8),)), False)

    def test_bent(self):
        for seed in range(12):
            columns, rules = made(seed, 3)
            if oracle.kept_by_a_row(columns, rules):
                for value in bends(cover(columns, rules)):
                    self.told(columns, rules, value)

    def test_with_other_rules(self):
        told = []
        for seed in range(150):
            dice = random.Random(seed)
            columns, rules = made(seed, 4)
            if oracle.kept_by_a_row(columns, rules):
                whole = cover(columns, rules)
                general = [cover(columns, rules[:k]) for k in range(len(rules))]
                more = whole + made_rules(dice, columns, 2)
                for value in [rules, whole[1:], whole[::-1], more, whole + whole[:1]] + general:
                    told.append(self.told(columns, rules, value))
        self.assertTrue(told.count(True) > 60 and told.count(False) > 100, (told.count(True), told.count(False)))

    def test_any_value(self):
        for value in any_values():
            self.told(COLUMNS, RULES, value)
            self.assertIs(is_cover(COLUMNS, (), value), value == () and isinstance(value, tuple))


class Time(unittest.TestCase):
    def test_limits(self):
        columns = ((0, 1, 2), (0, 1, 2), None, None)
        half = tuple([(((0, k // 3), (1, k % 3)), 2, 5) for k in range(6)])
        for rules in [half + ((((0, 2),), 2, 5), (((0, None), (1, None)), 3, None)),
                      tuple([(((0, k // 3), (1, k % 3), (2, 4)), 3, 5) for k in range(8)]),
                      tuple([(((0, k // 3), (1, k % 3), (2, None)), 3, None) for k in range(8)])]:
            start = time.monotonic()
            needless(columns, rules)
            told = cover(columns, rules)
            self.assertIs(is_cover(columns, rules, told), True)
            self.assertLess(time.monotonic() - start, 3)


if __name__ == "__main__":
    unittest.main()
