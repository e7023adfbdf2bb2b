"""Points 16 and 17: views, and what follows over them."""

import random
import time
import unittest

from whererules.errors import InvalidColumns, InvalidRule, InvalidRules, InvalidTable, InvalidView
from whererules.views import is_view, view_against, view_follows, view_rows, view_trees

import oracle
import oracle_views
from samples import BIG, any_values, bends, made_columns, made_rule, made_rules, made_table, made_view
from wrong import assert_raises

COLUMNS = (None, None, (0, 1))
RULES = ((((0, 44),), 2, 1), (((1, None), (2, 1)), 0, None))
TABLE = ((44, 7, 1), (44, 8, 0), (1, 7, 1))
VIEW = ((((0, 44),), (1, 2)),)
THREE = (None, None, None)
ALL = ((), (0, 1, 2))


def made(seed, most=3):
    """Columns, rules, a view, and a rule over it."""
    dice = random.Random(seed)
    columns = made_columns(seed, most)
    view = made_view(dice, columns)
    return columns, made_rules(dice, columns, 5), view, made_rule(dice, (None,) * len(view[0][1]))


class IsView(unittest.TestCase):
    RIGHT = [
        VIEW, (ALL,), (ALL,) * 3, (((), (0,)),), (((), (2, 0, 1)),), (((), (2, 1, 0)), ((), (0, 1, 2))),
        (((), (0,)), ((), (1,)), ((), (2,))), ((((0, 1), (1, 2), (2, 1)), (0,)),), ((((2, 0),), (2,)),),
        ((((0, BIG),), (0,)),), ((((0, 0),), (1, 0)), (((0, 1),), (0, 1))), (((), (1, 2)), (((1, 3),), (2, 1)))]
    WRONG = [
        (), (ALL,) * 4, ALL, ((),), ((), ()), (((), ()),), (((), (0,)), ((), (0, 1))), (((), (0, 1)), ((), (0,))),
        (((), (0,)), ((), (1,)), ((), (0, 1))), (((), (0, 0)),), (((), (0, 1, 0)),), (((), (3,)),), (((), (-1,)),),
        (((), (None,)),), (((), (True,)),), (((), (0, False)),), (((), [0]),), (([], (0,)),), ([(), (0,)],),
        [((), (0,))], (((), (0,), ()),), (((),),), (((), 0),), ((None, (0,)),), (((), None),), (((), "0"),),
        ((((1, 2), (0, 1)), (0,)),), ((((0, 1), (0, 1)), (0,)),), ((((0, 1), (0, 2)), (0,)),), ((((3, 1),), (0,)),),
        ((((-1, 1),), (0,)),), ((((2, 2),), (0,)),), ((((0, -1),), (0,)),), ((((0, None),), (0,)),),
        ((((0, True),), (0,)),), ((((False, 1),), (0,)),), ((((0, "1"),), (0,)),), (((0, 1), (0,)),),
        (([(0, 1)], (0,)),), ((([0, 1],), (0,)),), ((((0,),), (0,)),), ((((0, 1, 1),), (0,)),),
        (((), (0, 1, 2, 0)),), (((), (0, 1, 2, 3)),), (ALL, None), (None, ALL), (ALL, ALL, ((), (0, 1))),
        (ALL, ALL, [(), (0, 1, 2)]), (ALL, (((2, 2),), (0, 1, 2)))]

    def test_by_hand(self):
        for value in self.RIGHT:
            self.assertIs(is_view(COLUMNS, value), True, value)
        for value in self.WRONG:
            self.assertIs(is_view(COLUMNS, value), False, value)

    def test_other_columns(self):
        self.assertIs(is_view((None,) * 4, (((), (3, 0, 2, 1)),)), True)
        self.assertIs(is_view((None,) * 4, (((), (3, 0, 2, 4)),)), False)
        self.assertIs(is_view((None,), (((), (0,)),)), True)
        self.assertIs(is_view((None,), VIEW), False)
        self.assertIs(is_view(((3, 5),), ((((0, 5),), (0,)),)), True)
        self.assertIs(is_view(((3, 5),), ((((0, 4),), (0,)),)), False)

    def test_bent(self):
        for value in self.RIGHT + [made_view(random.Random(seed), COLUMNS) for seed in range(30)]:
            for bent in bends(value):
                self.assertIs(is_view(COLUMNS, bent), oracle_views.right_view(COLUMNS, bent), bent)

    def test_any_value(self):
        for value in any_values():
            self.assertIs(is_view(COLUMNS, value), False, value)
            for more in [(value,), (ALL, value), ((value, (0,)),), (((), value),), (((), (value,)),)]:
                self.assertIs(is_view(COLUMNS, more), oracle_views.right_view(COLUMNS, more), more)
            self.assertIs(is_view(COLUMNS, ((((0, value),), (0,)),)), oracle.in_column(None, value))
            if not oracle.right_columns(value):
                assert_raises(self, InvalidColumns, is_view, (value, VIEW))


class ViewRows(unittest.TestCase):
    def test_by_hand(self):
        for view, right in [
                (VIEW, ((7, 1), (8, 0))), ((ALL,), TABLE), (((((0, 45),), (0,)),), ()),
                ((((), (2, 0)),), ((1, 44), (0, 44), (1, 1))), (((((0, 44), (2, 1)), (1,)),), ((7,),)),
                ((((), (0,)), (((2, 1),), (1,))), ((44,), (44,), (1,), (7,), (7,))),
                ((((), (0,)),) * 3, ((44,), (44,), (1,)) * 3),
                (((((0, 1),), (1, 2)), (((0, 44),), (2, 1))), ((7, 1), (1, 7), (0, 8)))]:
            self.assertEqual(view_rows(COLUMNS, view, TABLE), right, view)
            self.assertEqual(view_rows(COLUMNS, view, ()), ())
        self.assertEqual(len(view_rows(COLUMNS, (ALL,) * 3, (TABLE[0],) * 8)), 24)
        self.assertEqual(view_rows(COLUMNS, (((), (1,)),), (TABLE[0],) * 8), ((7,),) * 8)

    def test_made(self):
        for seed in range(200):
            dice = random.Random(seed)
            columns = made_columns(seed)
            view, table = made_view(dice, columns), made_table(dice, columns, 8)
            told = view_rows(columns, view, table)
            self.assertEqual(told, oracle_views.rows_of_view(view, table))
            self.assertTrue(isinstance(told, tuple) and all(isinstance(row, tuple) for row in told))

    def test_errors(self):
        assert_raises(self, InvalidView, view_rows, (COLUMNS, (), TABLE * 4))
        assert_raises(self, InvalidTable, view_rows, (COLUMNS, VIEW, TABLE * 4))
        assert_raises(self, InvalidColumns, view_rows, ((), (), TABLE * 4))


ASKED = [
    # columns, rules, view, a rule over it, and whether it follows
    (COLUMNS, RULES, VIEW, ((), 1, 1), True), (COLUMNS, RULES, VIEW, ((), 1, 0), False),
    (COLUMNS, RULES, VIEW, ((), 0, 7), False), (COLUMNS, RULES, VIEW, ((), 1, None), True),
    (COLUMNS, RULES, VIEW, (((0, None),), 1, None), True), (COLUMNS, RULES, VIEW, (((1, None),), 0, None), False),
    (COLUMNS, (), VIEW, ((), 1, 1), False), (COLUMNS, RULES, ((((0, 45),), (1, 2)),), ((), 1, 1), False),
    # a value that the closed column has not: no row of the view has it
    (COLUMNS, (), (((), (2, 0)),), (((0, 2),), 1, 9), True), (COLUMNS, (), (((), (2, 0)),), (((0, 2),), 1, None), True),
    (COLUMNS, (), (((), (2, 0)),), (((0, 1),), 1, 9), False), (COLUMNS, (), (((), (2, 0)),), ((), 0, 2), False),
    (COLUMNS, (), (((), (2, 0)), ((), (0, 2))), (((0, 2),), 1, 9), False),
    (COLUMNS, (), (((), (2, 0)), ((), (0, 2))), (((0, 2),), 1, None), False),
    (((5,), None), (), (((), (0,)),), ((), 0, 5), True), (((5,), None), (), (((), (0,)),), ((), 0, None), True),
    (((5,), None), (), (((), (0,)),), ((), 0, 6), False),
    (((5,), None), (), (((), (0,)), ((), (1,))), ((), 0, 5), False),
    (((5,), None), (((), 1, 5),), (((), (0,)), ((), (1,))), ((), 0, 5), True),
    (((5,), None), (((), 1, 5),), (((), (0,)), ((), (1,))), ((), 0, None), True),
    # branches that contradict a value, or the rules
    (COLUMNS, RULES, ((((0, 44), (2, 0)), (1,)),), ((), 0, 3), True),
    (COLUMNS, RULES, ((((0, 44), (2, 0)), (1,)),), ((), 0, None), True),
    (COLUMNS, RULES, ((((0, 44), (2, 0)), (1,)), ((), (1,))), ((), 0, None), False),
    (COLUMNS, RULES, ((((0, 44), (2, 0)), (1,)), ((), (1,))), ((), 0, 3), False),
    (COLUMNS, (), ((((0, 1),), (0, 1)),), (((0, 2),), 1, 3), True),
    (COLUMNS, (), ((((0, 1),), (0, 1)), (((0, 2),), (0, 1))), (((0, 2),), 1, 3), False),
    (COLUMNS, ((((0, 2),), 1, 3),), ((((0, 1),), (0, 1)), (((0, 2),), (0, 1))), (((0, 2),), 1, 3), True),
    # two branches that are apart by a value; rules that hold within each, but not between them
    (THREE, ((((0, 1), (1, None)), 2, None), (((0, 2), (1, None)), 2, None)),
     ((((0, 1),), (1, 2)), (((0, 2),), (1, 2))), (((0, None),), 1, None), False),
    (THREE, ((((0, 1), (1, None)), 2, None), (((0, 2), (1, None)), 2, None)),
     ((((0, 1),), (0, 1, 2)), (((0, 2),), (0, 1, 2))), (((0, None), (1, None)), 2, None), True),
    (THREE, ((((0, 1), (1, None)), 2, None),),
     ((((0, 1),), (0, 1, 2)), (((0, 2),), (0, 1, 2))), (((0, None), (1, None)), 2, None), False),
    (THREE, ((((1, None),), 2, None),), ((((0, 1),), (1, 2)), (((0, 2),), (1, 2))), (((0, None),), 1, None), True),
    # one row in two branches, with its columns in two places
    (THREE, (), (((), (0, 1)), ((), (1, 0))), (((0, None),), 1, None), False),
    (THREE, (), (((), (0,)), ((), (0,))), ((), 0, None), False),
    (THREE, (((), 0, 4), ((), 1, 4)), (((), (0,)), ((), (1,))), ((), 0, None), True),
    (THREE, (((), 0, 4), ((), 1, 5)), (((), (0,)), ((), (1,))), ((), 0, None), False),
    (THREE, (((), 0, None), ((), 1, None)), (((), (0,)), ((), (1,))), ((), 0, None), False),
    (THREE, (((), 0, None),), (((), (0,)), ((), (0,))), ((), 0, None), True),
    # an equality over columns: of an open and a closed one, of two closed ones
    (((0, 1), (1, 2), None), (), (((), (0, 2)), ((), (1, 2))), (((0, None),), 1, None), False),
    (((0, 1), (1, 2), None), ((((0, 1),), 2, 9), (((1, 1),), 2, 9), (((0, None),), 2, None), (((1, None),), 2, None)),
     (((), (0, 2)), ((), (1, 2))), (((0, None),), 1, None), True),
    (((0, 1), (1, 2), None), ((((0, 1),), 2, 9), (((1, 1),), 2, 8), (((0, None),), 2, None), (((1, None),), 2, None)),
     (((), (0, 2)), ((), (1, 2))), (((0, None),), 1, None), False),
    (((0, 1), (2, 3), None), ((((0, None),), 2, None), (((1, None),), 2, None)),
     (((), (0, 2)), ((), (1, 2))), (((0, None),), 1, None), True),
    (((0, 1), None), (((), 1, 4),), (((), (0,)), ((), (1,))), ((), 0, None), False),
    # an equality over columns whose value goes on to a step
    (THREE, (((), 0, 4), (((0, 4),), 2, 6), (((1, None),), 2, None)),
     (((), (0, 2)), ((), (1, 2))), (((0, None),), 1, None), True),
    (THREE, (((), 0, 4), (((1, 4),), 2, 6), (((1, None),), 2, None)),
     (((), (0, 2)), ((), (1, 2))), (((0, None),), 1, None), False),
    (THREE, (((), 0, 4), (((1, 4),), 2, 6), (((0, 4),), 2, 6), (((1, None),), 2, None)),
     (((), (0, 2)), ((), (1, 2))), (((0, None),), 1, None), True),
    # rules at war: all follow
    ((None,), (((), 0, 0), ((), 0, 1)), (((), (0,)),), ((), 0, 7), True),
    ((None,), (((), 0, 0), ((), 0, 1)), (((), (0,)),), ((), 0, None), True),
    # fresh values are to be greater than those that branches choose
    ((None, None), (), ((((0, 1),), (0,)), (((1, 5),), (0,))), ((), 0, None), False),
    ((None,), (), ((((0, 1),), (0,)), ((), (0,))), ((), 0, None), False),
    ((None,), (), ((((0, 2),), (0,)), ((), (0,))), ((), 0, None), False),
    ((None,), (), ((((0, BIG),), (0,)), ((), (0,))), ((), 0, None), False),
    ((None, None), ((((0, None),), 1, None),), ((((0, 1), (1, 2)), (0,)), ((), (0,))), ((), 0, None), False),
    ((None,), (), ((((0, BIG),), (0,)),), ((), 0, None), True),
    # and greater than those of closed columns, which the view may put beside open ones
    ((None, (1,)), (((), 0, None),), (((), (0,)), ((), (1,))), ((), 0, None), False),
    ((None, (1, 2), None), ((((1, None),), 0, None),), ((((1, 1),), (0, 1)), ((), (1, 0)), ((), (1, 2))),
     (((1, None),), 0, None), False),
    ((None, (BIG,)), (((), 0, None),), (((), (0,)), ((), (1,))), ((), 0, None), False),
]


class Following(unittest.TestCase):
    def judge(self, columns, rules, view, rule):
        """Whether the rule follows; asserts that what is returned shows it."""
        told = view_follows(columns, rules, view, rule)
        trees, table = view_trees(columns, rules, view, rule), view_against(columns, rules, view, rule)
        self.assertIs(told, trees is not None)
        self.assertIs(told, table is None)
        if told:
            self.assertTrue(oracle_views.trees_judged(columns, rules, view, rule, trees), trees)
            self.assertIs(trees.__class__, list)
            self.assertTrue(all(type(entry) is tuple for entry in trees))
        else:
            self.assertTrue(oracle_views.against_judged(columns, rules, view, rule, table), table)
        return told

    def test_by_hand(self):
        for columns, rules, view, rule, right in ASKED:
            self.assertIs(self.judge(columns, rules, view, rule), right, (columns, rules, view, rule))

    def test_judged(self):
        told = {}
        for seed in range(1500):
            columns, rules, view, rule = made(seed, 3 + seed % 2)
            key = (self.judge(columns, rules, view, rule), rule[2] is None, len(view))
            told[key] = told.get(key, 0) + 1
        for right in (True, False):
            for pair in (True, False):
                for many in (1, 2, 3):
                    self.assertGreater(told.get((right, pair, many), 0), 10, (right, pair, many))

    def test_no_table_is_against_what_follows(self):
        asked = 0
        for seed in range(400):
            columns, rules, view, rule = made(seed, 2 + seed % 2)
            if view_follows(columns, rules, view, rule):
                self.assertFalse(oracle_views.fails_somewhere(columns, rules, view, rule), (columns, rules, view, rule))
                asked += 1
        self.assertGreater(asked, 80)

    def test_closed_values_next_to_those_made_up(self):
        asked = 0
        for seed in range(2000):
            dice = random.Random(seed)
            columns = dice.choice([(None, None), (None, None, None), (None,)])
            rules = tuple([rule for rule in made_rules(dice, columns, 2) if rule[2] is None])
            apart = dice.randint(1, 12)
            columns += (tuple(range(apart, apart + dice.randint(1, 3))),)
            view = tuple([((), tuple(dice.sample(range(len(columns)), len(columns) - 1))) for _ in range(2)])
            rule = made_rule(dice, (None,) * len(view[0][1]))
            asked += not self.judge(columns, rules, view, rule)
        self.assertGreater(asked, 1000)

    def test_the_view_of_all(self):
        for seed in range(150):
            dice = random.Random(seed)
            columns = made_columns(seed, 3)
            rules, rule = made_rules(dice, columns, 5), made_rule(dice, columns)
            view = (((), tuple(range(len(columns)))),)
            self.assertIs(self.judge(columns, rules, view, rule), oracle.rule_follows(columns, rules, rule))

    def test_branches_of_the_trees(self):
        view = (ALL, ((), (0, 2, 1)), ((), (2, 1, 0)))
        told = view_trees(THREE, (((), 0, 1), ((), 1, 1), ((), 2, 1)), view, ((), 0, 1))
        self.assertEqual([entry[:-1] for entry in told], [(0,), (1,), (2,)])
        told = view_trees(THREE, (((), 0, 1), ((), 1, 1), ((), 2, 1)), view, ((), 0, None))
        self.assertEqual([entry[:-1] for entry in told], [(0, 0), (0, 1), (0, 2), (1, 1), (1, 2), (2, 2)])

    def test_errors(self):
        four = (((), (0, 1)),) * 4
        for call in (view_follows, view_trees, view_against):
            for value in any_values() + [((), 2, 1), (((2, 1),), 0, 1), (((0, 1), (2, 1)), 1, 1), ((), 2, None)]:
                if not oracle_views.right_view_rule(VIEW, value):
                    assert_raises(self, InvalidRule, call, (COLUMNS, RULES, VIEW, value))
                    assert_raises(self, InvalidView, call, (COLUMNS, RULES, four, value))
                    assert_raises(self, InvalidRules, call, (COLUMNS, RULES * 5, four, value))
                    assert_raises(self, InvalidColumns, call, ((None, 5), RULES * 5, four, value))
            # the columns of the view are open ones, and as many as it keeps
            self.assertIsNot(call(COLUMNS, RULES, (((), (2,)),), ((), 0, 99)), True)
            call(COLUMNS, RULES, (((), (2, 1, 0)),), (((0, 5), (1, BIG)), 2, 7))
            assert_raises(self, InvalidRule, call, (COLUMNS, RULES, (((), (2,)),), RULES[0]))

    def test_time(self):
        columns = ((0, 1, 2), (0, 1, 2), None, None)
        rules = tuple([(((0, k // 3), (1, k % 3)), 2, 5) for k in range(6)])
        rules += ((((0, 2),), 2, 5), (((0, None), (1, None)), 3, None))
        view = (((), (0, 1, 2, 3)), ((), (1, 0, 2, 3)), ((), (0, 1, 2, 3)))
        start = time.monotonic()
        for rule in [((), 2, 5), ((), 2, None), (((3, None),), 2, None), (((0, None), (1, None)), 3, None)]:
            self.judge(columns, rules, view, rule)
        self.assertLess(time.monotonic() - start, 10)


if __name__ == "__main__":
    unittest.main()
