"""Points 20 and 21: the desk."""

import random
import time
import unittest

from whererules.desk import Desk
from whererules.errors import (
    AtWar, Full, InvalidColumns, InvalidMark, InvalidNumber, InvalidRow, InvalidRule, InvalidValue, RuleError)

import oracle
from oracle_desk import Plain, paper_stands
from samples import (
    BIG, any_values, bends, left_alone, made_columns, made_row, made_rule, made_value, renewed, same)
from wrong import assert_raises

COLUMNS = (None, None, (0, 1))
FIRST = (((0, 44),), 2, 1)
SECOND = (((1, None), (2, 1)), 0, None)
ROW = (44, 7, 1)
NO_NAMES = [-1, 9, True, False, None, "0", "", (0,), [0], (), [], BIG]


def shown(desk):
    """All that a desk shows, but for news."""
    papers = []
    while True:
        try:
            papers.append((desk.paper(len(papers)), desk.stands(len(papers))))
        except InvalidNumber:
            break
    return (desk.table, desk.rules, desk.row_names, desk.rule_names, desk.breaks(), papers)


def names_of(tree):
    """The names of rules in a tree."""
    if tree[0] == "split":
        return set().union(*[names_of(part) for part in tree[3]])
    return {tree[1]} | names_of(tree[-1]) if tree[0] in ("step", "join") else set()


def put(desk, *rows):
    return [desk.put(row) for row in rows]


class Rows(unittest.TestCase):
    def test_new(self):
        desk = Desk(COLUMNS)
        self.assertEqual(shown(desk), ((), (), (), (), [], []))
        self.assertEqual(desk.news(), ([], []))

    def test_put_and_take(self):
        desk = Desk(COLUMNS)
        self.assertEqual(put(desk, ROW, ROW, (1, 2, 0)), [0, 1, 2])
        self.assertEqual((desk.table, desk.row_names), ((ROW, ROW, (1, 2, 0)), (0, 1, 2)))
        self.assertIsNone(desk.take(1))
        self.assertEqual((desk.table, desk.row_names), ((ROW, (1, 2, 0)), (0, 2)))
        self.assertEqual(desk.put(ROW), 3)
        for name in (3, 0, 2):
            desk.take(name)
        self.assertEqual((desk.table, desk.row_names), ((), ()))
        self.assertEqual(desk.put((1, 2, 0)), 4)
        self.assertEqual((desk.table, desk.row_names), (((1, 2, 0),), (4,)))

    def test_full(self):
        desk = Desk(COLUMNS)
        self.assertEqual(put(desk, *[ROW] * 8), list(range(8)))
        with self.assertRaises(Full) as caught:
            desk.put(ROW)
        self.assertEqual(caught.exception.limit, 8)
        assert_raises(self, InvalidRow, desk.put, ((1, 2, 2),))
        desk.take(4)
        self.assertEqual(desk.put(ROW), 8)
        assert_raises(self, Full, desk.put, (ROW,))
        self.assertEqual(desk.row_names, (0, 1, 2, 3, 5, 6, 7, 8))

    def test_change(self):
        desk = Desk(COLUMNS)
        put(desk, ROW, (1, 2, 0), (3, 4, 1))
        desk.take(0)
        self.assertIsNone(desk.change(1, 1, 9))
        self.assertEqual((desk.table, desk.row_names), (((1, 9, 0), (3, 4, 1)), (1, 2)))
        desk.change(2, 2, 0)
        desk.change(2, 0, BIG)
        desk.change(1, 0, 1)
        self.assertEqual((desk.table, desk.row_names), (((1, 9, 0), (BIG, 4, 0)), (1, 2)))

    def test_errors(self):
        desk = Desk(COLUMNS)
        put(desk, ROW, (1, 2, 0))
        desk.take(0)
        before = shown(desk)
        for value in NO_NAMES + [0, 2] + any_values():
            if not (oracle.integer(value) and value == 1):
                assert_raises(self, InvalidNumber, desk.take, (value,))
                assert_raises(self, InvalidNumber, desk.change, (value, 0, 0))
                assert_raises(self, InvalidNumber, desk.change, (value, 9, -1))
                assert_raises(self, InvalidNumber, desk.change, (value, 2, 2))
                assert_raises(self, InvalidNumber, desk.change, (value, value, value))
            if not oracle.below(value, 3):
                assert_raises(self, InvalidNumber, desk.change, (1, value, 0))
                assert_raises(self, InvalidNumber, desk.change, (1, value, -1))
            for column in range(3):
                if not oracle.in_column(COLUMNS[column], value):
                    assert_raises(self, InvalidValue, desk.change, (1, column, value))
            if not oracle.right_row(COLUMNS, value):
                assert_raises(self, InvalidRow, desk.put, (value,))
        assert_raises(self, InvalidValue, desk.change, (1, 2, 2))
        for value in bends((1, 2, 0)):
            if not oracle.right_row(COLUMNS, value):
                assert_raises(self, InvalidRow, desk.put, (value,))
        self.assertEqual(shown(desk), before)
        self.assertEqual(desk.put(ROW), 2)

    def test_columns(self):
        for value in any_values() + list(bends(COLUMNS)):
            if not oracle.right_columns(value):
                assert_raises(self, InvalidColumns, Desk, (value,))
            else:
                self.assertEqual(Desk(value).table, ())


class Rules(unittest.TestCase):
    def test_add_and_drop(self):
        desk = Desk(COLUMNS)
        self.assertEqual([desk.add_rule(FIRST), desk.add_rule(SECOND), desk.add_rule(FIRST)], [0, 1, 2])
        self.assertEqual((desk.rules, desk.rule_names), ((FIRST, SECOND, FIRST), (0, 1, 2)))
        self.assertIsNone(desk.drop_rule(0))
        self.assertEqual((desk.rules, desk.rule_names), ((SECOND, FIRST), (1, 2)))
        self.assertEqual(desk.add_rule(FIRST), 3)
        desk.drop_rule(3)
        desk.drop_rule(1)
        desk.drop_rule(2)
        self.assertEqual((desk.rules, desk.rule_names), ((), ()))
        self.assertEqual([desk.add_rule(SECOND), desk.put(ROW)], [4, 0])

    def test_full(self):
        desk = Desk(COLUMNS)
        for k in range(8):
            self.assertEqual(desk.add_rule((((0, k),), 2, 1)), k)
        with self.assertRaises(Full) as caught:
            desk.add_rule(FIRST)
        self.assertEqual(caught.exception.limit, 8)
        # Full is ahead of AtWar, and behind InvalidRule.
        assert_raises(self, Full, desk.add_rule, (((), 2, 0),))
        assert_raises(self, InvalidRule, desk.add_rule, (((), 2, 2),))
        desk.drop_rule(0)
        self.assertEqual(desk.add_rule(FIRST), 8)

    def test_war(self):
        desk = Desk(((0, 1), None))
        desk.add_rule((((0, 0),), 1, 5))
        desk.add_rule((((0, 0),), 1, 5))
        desk.drop_rule(0)
        desk.add_rule((((0, 1),), 1, 5))
        before = shown(desk)
        rule = ((), 1, 6)
        for _ in range(2):
            with self.assertRaises(AtWar) as caught:
                desk.add_rule(rule)
            self.assertTrue(oracle.war_judged(((0, 1), None), desk.rules + (rule,), caught.exception.tree))
            self.assertEqual(shown(desk), before)
        # The name that was not given is still the next one.
        self.assertEqual(desk.add_rule(((), 1, 5)), 3)

    def test_errors(self):
        desk = Desk(COLUMNS)
        desk.add_rule(FIRST)
        desk.add_rule(SECOND)
        desk.drop_rule(0)
        before = shown(desk)
        for value in NO_NAMES + [0, 2] + any_values():
            if not (oracle.integer(value) and value == 1):
                assert_raises(self, InvalidNumber, desk.drop_rule, (value,))
            if not oracle.right_rule(COLUMNS, value):
                assert_raises(self, InvalidRule, desk.add_rule, (value,))
                assert_raises(self, InvalidRule, desk.ask, (value,))
        for value in list(bends(FIRST)) + list(bends(SECOND)):
            if not oracle.right_rule(COLUMNS, value):
                assert_raises(self, InvalidRule, desk.add_rule, (value,))
                assert_raises(self, InvalidRule, desk.ask, (value,))
        self.assertEqual(shown(desk), before)


class BreaksAndNews(unittest.TestCase):
    def test_names(self):
        desk = Desk(COLUMNS)
        desk.drop_rule(desk.add_rule(FIRST))
        desk.take(desk.put(ROW))
        put(desk, (44, 7, 1), (44, 8, 0), (1, 7, 1), (45, 7, 1))
        self.assertEqual([desk.add_rule(SECOND), desk.add_rule(FIRST)], [1, 2])
        self.assertEqual(desk.breaks(), [(1, 1, 3), (1, 1, 4), (1, 3, 4), (2, 2)])
        desk.take(3)
        self.assertEqual(desk.breaks(), [(1, 1, 4), (2, 2)])
        desk.breaks().append("more")
        self.assertEqual(desk.breaks(), [(1, 1, 4), (2, 2)])

    def test_news(self):
        desk = Desk(COLUMNS)
        desk.add_rule(FIRST)
        put(desk, (44, 7, 0), (44, 8, 0))
        self.assertEqual(desk.news(), ([(0, 0), (0, 1)], []))
        self.assertEqual(desk.news(), ([], []))
        desk.change(0, 2, 1)
        desk.put((44, 9, 0))
        self.assertEqual(desk.news(), ([(0, 2)], [(0, 0)]))
        # what has come and gone in between is no news
        desk.change(0, 2, 0)
        desk.change(0, 2, 1)
        desk.take(desk.put((44, 1, 0)))
        self.assertEqual(desk.news(), ([], []))
        desk.drop_rule(0)
        desk.add_rule(FIRST)
        told = desk.news()
        self.assertEqual(told, ([(1, 1), (1, 2)], [(0, 1), (0, 2)]))
        self.assertTrue(isinstance(told, tuple) and isinstance(told[0], list) and isinstance(told[1], list))
        told[0].append("more")
        told[1].clear()
        self.assertEqual(desk.news(), ([], []))
        desk.take(1)
        self.assertEqual(desk.news(), ([], [(1, 1)]))

    def test_news_and_marks(self):
        desk = Desk(COLUMNS)
        desk.add_rule(FIRST)
        desk.mark()
        desk.put((44, 7, 0))
        self.assertEqual(desk.news(), ([(0, 0)], []))
        desk.mark()
        desk.change(0, 2, 1)
        self.assertEqual(desk.news(), ([], [(0, 0)]))
        desk.back(1)
        self.assertEqual(desk.news(), ([], []))
        desk.back(0)
        self.assertEqual(desk.news(), ([], []))
        desk.put((44, 7, 0))
        self.assertEqual(desk.news(), ([(0, 1)], []))


class Papers(unittest.TestCase):
    def test_trees(self):
        desk = Desk(COLUMNS)
        desk.drop_rule(desk.add_rule(FIRST))
        self.assertEqual([desk.add_rule(SECOND), desk.add_rule(FIRST)], [1, 2])
        rule = (((0, 44), (1, None)), 2, None)
        self.assertEqual(desk.ask(rule), 0)
        kind, tree = desk.paper(0)
        self.assertEqual(kind, "tree")
        self.assertTrue(paper_stands(COLUMNS, {1: SECOND, 2: FIRST}, rule, desk.paper(0)))
        self.assertEqual(tree[1], 2)
        self.assertIs(desk.stands(0), True)
        desk.drop_rule(2)
        self.assertIs(desk.stands(0), False)
        # An equal rule with another name does not bring it back; to add rules never ends a tree.
        desk.add_rule(FIRST)
        self.assertIs(desk.stands(0), False)
        self.assertEqual(desk.paper(0), (kind, tree))

    def test_a_tree_stands_as_long_as_its_rules_are_there(self):
        desk = Desk((None, None, None))
        rules = [(((0, None),), 1, None), (((1, None),), 2, None), ((), 0, 4)]
        for rule in rules:
            desk.add_rule(rule)
        desk.ask((((0, None),), 2, None))
        desk.mark()
        self.assertLessEqual({0, 1}, names_of(desk.paper(0)[1]))
        for name in (0, 1):
            self.assertIs(desk.stands(0), True)
            desk.drop_rule(name)
            self.assertIs(desk.stands(0), False)
            desk.back(0)

    def test_a_tree_that_splits(self):
        columns = ((0, 1, 2), None)
        desk = Desk(columns)
        rules = dict([(desk.add_rule((((0, value),), 1, 5)), (((0, value),), 1, 5)) for value in (0, 1, 2)])
        rule = ((), 1, 5)
        desk.ask(rule)
        self.assertEqual(desk.paper(0)[1][0], "split")
        self.assertTrue(paper_stands(columns, rules, rule, desk.paper(0)))
        desk.mark()
        for name in rules:
            desk.drop_rule(name)
            self.assertIs(desk.stands(0), False)
            desk.back(0)
            self.assertIs(desk.stands(0), True)

    def test_tables(self):
        desk = Desk(COLUMNS)
        desk.add_rule(FIRST)
        rule = (((0, 45),), 2, 1)
        self.assertEqual(desk.ask(rule), 0)
        kind, table = desk.paper(0)
        self.assertEqual(kind, "against")
        self.assertTrue(paper_stands(COLUMNS, {0: FIRST}, rule, (kind, table)))
        self.assertIs(desk.stands(0), True)
        desk.drop_rule(0)
        self.assertIs(desk.stands(0), True)
        name = desk.add_rule(rule)
        self.assertIs(desk.stands(0), False)
        desk.drop_rule(name)
        self.assertIs(desk.stands(0), True)

    def test_full_and_numbers(self):
        desk = Desk(COLUMNS)
        for value in NO_NAMES + any_values():
            assert_raises(self, InvalidNumber, desk.paper, (value,))
            assert_raises(self, InvalidNumber, desk.stands, (value,))
        for k in range(8):
            self.assertEqual(desk.ask(FIRST), k)
        with self.assertRaises(Full) as caught:
            desk.ask(FIRST)
        self.assertEqual(caught.exception.limit, 8)
        assert_raises(self, InvalidRule, desk.ask, (None,))
        for value in [-1, 8, True, "0", (0,)] + any_values():
            if not oracle.below(value, 8):
                assert_raises(self, InvalidNumber, desk.paper, (value,))
                assert_raises(self, InvalidNumber, desk.stands, (value,))

    def test_papers_go_back(self):
        desk = Desk(COLUMNS)
        desk.ask(FIRST)
        desk.mark()
        self.assertEqual([desk.ask(SECOND), desk.ask(FIRST)], [1, 2])
        desk.back(0)
        assert_raises(self, InvalidNumber, desk.paper, (1,))
        self.assertEqual(desk.ask(FIRST), 1)
        self.assertEqual(desk.paper(1), desk.paper(0))


class Marks(unittest.TestCase):
    def test_back(self):
        desk = Desk(COLUMNS)
        put(desk, ROW, (1, 2, 0))
        desk.add_rule(FIRST)
        first = shown(desk)
        self.assertEqual(desk.mark(), 0)
        desk.take(0)
        desk.change(1, 0, 44)
        desk.add_rule(SECOND)
        desk.ask(FIRST)
        second = shown(desk)
        self.assertEqual(desk.mark(), 1)
        desk.drop_rule(0)
        desk.put(ROW)
        self.assertEqual(desk.mark(), 2)
        self.assertIsNone(desk.back(1))
        self.assertEqual(shown(desk), second)
        assert_raises(self, InvalidMark, desk.back, (2,))
        self.assertEqual(desk.mark(), 2)
        desk.back(0)
        self.assertEqual(shown(desk), first)
        desk.back(0)
        self.assertEqual(shown(desk), first)
        assert_raises(self, InvalidMark, desk.back, (1,))
        # names are never used again
        self.assertEqual([desk.put(ROW), desk.add_rule(SECOND)], [3, 2])
        self.assertEqual((desk.row_names, desk.rule_names), ((0, 1, 3), (0, 2)))

    def test_full(self):
        desk = Desk(COLUMNS)
        self.assertEqual([desk.mark() for _ in range(6)], list(range(6)))
        with self.assertRaises(Full) as caught:
            desk.mark()
        self.assertEqual(caught.exception.limit, 6)
        desk.back(5)
        assert_raises(self, Full, desk.mark, ())
        desk.back(4)
        self.assertEqual(desk.mark(), 5)
        desk.back(0)
        self.assertEqual([desk.mark() for _ in range(5)], [1, 2, 3, 4, 5])

    def test_errors(self):
        for many in (0, 1, 3):
            desk = Desk(COLUMNS)
            put(desk, ROW)
            for _ in range(many):
                desk.mark()
            for value in NO_NAMES + [many] + any_values():
                if not oracle.below(value, many):
                    with self.assertRaises(InvalidMark) as caught:
                        desk.back(value)
                    self.assertIs(caught.exception.number, value)
            self.assertEqual(desk.mark(), many)


class Histories(unittest.TestCase):
    """Histories of calls, beside the second writing."""

    def call(self, desk, plain, name, arguments):
        """Calls both, and asserts that they return or raise the same."""
        try:
            right = getattr(plain, name)(*arguments)
        except RuleError as error:
            with self.assertRaises(error.__class__) as caught:
                getattr(desk, name)(*arguments)
            self.same_error(desk, arguments, error, caught.exception)
            return error
        told = getattr(desk, name)(*arguments)
        if name == "ask":
            self.assertTrue(paper_stands(plain.columns, plain.now["rules"], arguments[0], desk.paper(told)))
            plain.keep_paper(arguments[0], desk.paper(told))
        self.assertTrue(same(told, right), (name, arguments, told, right))
        return None

    def same_error(self, desk, arguments, right, told):
        self.assertIs(told.__class__, right.__class__)
        if isinstance(right, Full):
            self.assertEqual(told.limit, right.limit)
        if isinstance(right, InvalidMark):
            self.assertIs(told.number, right.number)
        if isinstance(right, AtWar):
            self.assertTrue(oracle.war_judged(desk._columns, desk.rules + arguments, told.tree))

    def compare(self, desk, plain):
        self.assertEqual(desk.table, plain.table())
        self.assertEqual(desk.rules, plain.rules())
        self.assertEqual(desk.row_names, tuple(plain.now["rows"]))
        self.assertEqual(desk.rule_names, tuple(plain.now["rules"]))
        self.assertEqual(desk.breaks(), plain.breaks())
        papers = [(plain.paper(k), plain.stands(k)) for k in range(len(plain.now["papers"]))]
        self.assertEqual(shown(desk)[-1], papers)
        self.assertTrue(all(desk.stands(k) is plain.stands(k) for k in range(len(papers))))

    def made_call(self, dice, plain):
        """A call, right as a rule."""
        columns = plain.columns
        odd = dice.random() < 0.08
        row_name = dice.choice((list(plain.now["rows"]) or [0]) + [plain.row_count][:odd])
        rule_name = dice.choice((list(plain.now["rules"]) or [0]) + [plain.rule_count][:odd])
        column = dice.randrange(len(columns) + odd)
        rule = made_rule(dice, columns)
        calls = {
            "put": (made_row(dice, columns),), "take": (row_name,),
            "change": (row_name, column, made_value(dice, columns, column % len(columns))), "add_rule": (rule,),
            "drop_rule": (rule_name,), "news": (), "breaks": (), "ask": (dice.choice([rule, FIRST][:1 + odd]),),
            "paper": (dice.randrange(9),), "stands": (dice.randrange(9),), "mark": (), "back": (dice.randrange(3),)}
        names = (["put"] * 6 + ["add_rule"] * 6 + ["change"] * 4 + ["take"] * 2 + ["drop_rule"] * 2 + ["ask"] * 3
                 + ["news"] * 3 + ["mark"] * 2 + ["back"] + ["breaks", "paper", "stands"])
        name = dice.choice(names)
        return name, calls[name]

    def test_histories(self):
        raised = {}
        for seed in range(70):
            dice = random.Random(seed)
            columns = made_columns(seed, 3)
            desk, plain = Desk(columns), Plain(columns)
            for _ in range(60):
                name, arguments = self.made_call(dice, plain)
                error = self.call(desk, plain, name, arguments)
                raised[(name, type(error).__name__)] = raised.get((name, type(error).__name__), 0) + 1
                self.compare(desk, plain)
        for name in ("put", "take", "change", "add_rule", "drop_rule", "ask", "news", "mark", "back", "paper", "stands"):
            self.assertGreater(raised.get((name, "NoneType"), 0), 20, name)
        for told in [("put", "Full"), ("add_rule", "AtWar"), ("add_rule", "Full"), ("ask", "Full"),
                     ("back", "InvalidMark"), ("take", "InvalidNumber"), ("paper", "InvalidNumber")]:
            self.assertGreater(raised.get(told, 0), 3, (told, raised))

    def test_wrong_arguments_change_nothing(self):
        columns = (None, (0, 1), None)
        for seed in range(6):
            dice = random.Random(seed)
            desk, plain = Desk(columns), Plain(columns)
            for _ in range(30):
                self.call(desk, plain, *self.made_call(dice, plain))
            for value in any_values():
                for name, arguments in [
                        ("put", (value,)), ("take", (value,)), ("change", (value, 0, 0)), ("add_rule", (value,)),
                        ("change", (plain.row_count - 1, value, 0)), ("change", (plain.row_count - 1, 1, value)),
                        ("drop_rule", (value,)), ("ask", (value,)), ("paper", (value,)), ("stands", (value,)),
                        ("back", (value,))]:
                    if self.call(desk, plain, name, arguments) is not None:
                        self.compare(desk, plain)
            self.call(desk, plain, "news", ())

    def test_two_desks_share_nothing(self):
        columns = (None, (0, 1), None)
        both = [(Desk(columns), Plain(columns), random.Random(seed)) for seed in (1, 2)]
        for _ in range(60):
            for desk, plain, dice in both:
                self.call(desk, plain, *self.made_call(dice, plain))
            for desk, plain, _ in both:
                self.compare(desk, plain)

    def test_equal_histories(self):
        columns = (None, (0, 1), None)
        for seed in range(8):
            one, other, plain, dice = Desk(columns), Desk(renewed(columns)), Plain(columns), random.Random(seed)
            for _ in range(60):
                name, arguments = self.made_call(dice, plain)
                self.call(one, plain, name, arguments)
                left_alone(getattr(other, name), list(renewed(arguments)))
                self.assertTrue(same(shown(one), shown(other)))

    def test_arguments_are_left_alone(self):
        columns = (None, (0, 1), None)
        desk, plain, dice = Desk(columns), Plain(columns), random.Random(3)
        for _ in range(80):
            name, arguments = self.made_call(dice, plain)
            self.assertTrue(left_alone(getattr(desk, name), list(arguments))[1])
        for value in any_values()[:-1]:
            for name in ["put", "take", "add_rule", "drop_rule", "ask", "paper", "stands", "back"]:
                self.assertTrue(left_alone(getattr(desk, name), [value])[1], name)
            for arguments in [[value, 0, 0], [0, value, 0], [0, 0, value], [value, value, value]]:
                self.assertTrue(left_alone(desk.change, arguments)[1])

    def test_what_was_returned_stays(self):
        columns = (None, (0, 1), None)
        kept = []
        desk, plain, dice = Desk(columns), Plain(columns), random.Random(5)
        for _ in range(120):
            self.call(desk, plain, *self.made_call(dice, plain))
            told = (shown(desk), desk.news())
            plain.news()
            kept.append((told, repr(told)))
        for told, before in kept:
            self.assertEqual(repr(told), before)


class Time(unittest.TestCase):
    def test_limits(self):
        desk = Desk(((0, 1, 2), (0, 1, 2), None, None))
        start = time.monotonic()
        for k in range(8):
            desk.add_rule((((0, k // 3), (1, k % 3)), 2, 5))
            desk.put((k // 3, k % 3, 6, k))
        for rule in [((), 2, None), (((0, 2), (1, 2)), 2, 5), (((0, None), (1, None)), 2, None), (((0, 1),), 2, None)]:
            desk.ask(rule)
        self.assertEqual(len(desk.breaks()), 8)
        self.assertEqual(len(desk.news()[0]), 8)
        self.assertLess(time.monotonic() - start, 3)


class Shape(unittest.TestCase):
    def test_defined_in_the_class(self):
        for name in ["__init__", "put", "take", "change", "add_rule", "drop_rule", "breaks", "news", "ask", "paper",
                     "stands", "mark", "back", "table", "rules", "row_names", "rule_names"]:
            self.assertIn(name, vars(Desk))
        for name in ["table", "rules", "row_names", "rule_names"]:
            self.assertIsInstance(vars(Desk)[name], property)


if __name__ == "__main__":
    unittest.main()
