"""Points 29 and 30: the mending desk."""

import random
import time
import unittest

from whererules.errors import (
    Full, InvalidColumns, InvalidMark, InvalidNumber, InvalidRow, InvalidRule, InvalidValue, RuleError)
from whererules.faults import InvalidCosts
from whererules.fates import fates
from whererules.mender import Mender
from whererules.mends import mend, price
from whererules.records import judge

import oracle
from oracle_mender import PlainMender
from oracle_mends import right_costs
from samples import (
    BIG, any_values, bends, left_alone, made_columns, made_row, made_rule, made_value, nested, renewed, same, shared)
from wrong import assert_raises

COLUMNS = (None, None, (0, 1))
COSTS = (1, 1, 5)
FIRST = (((0, 44),), 2, 1)
SECOND = (((1, None), (2, 1)), 0, None)
ROW = (44, 7, 0)
KEPT = (1, 2, 0)
NO_NAMES = [-1, 9, True, False, None, "0", "", (0,), [0], (), [], BIG]
DEEP = [nested(60, tuple), nested(60, list), shared(40)]


def shown(mender):
    """All that a mending desk shows, but for news."""
    papers = []
    while True:
        try:
            papers.append((mender.paper(len(papers)), mender.stands(len(papers))))
        except InvalidNumber:
            break
    return (mender.table, mender.rules, mender.row_names, mender.rule_names, mender.pins, mender.costs,
            mender.price(), mender.mend(), mender.record(), papers)


def made_mender(rules=(FIRST,), rows=(ROW,), costs=COSTS, columns=COLUMNS):
    mender = Mender(columns, costs)
    for rule in rules:
        mender.add_rule(rule)
    for row in rows:
        mender.put(row)
    return mender


class Rows(unittest.TestCase):
    def test_new(self):
        mender = Mender(COLUMNS, COSTS)
        right = ((), (), (), (), (), COSTS, 0, (), ("mend", COLUMNS, (), (), COSTS, (), (), ()), [])
        self.assertTrue(same(shown(mender), right), shown(mender))
        self.assertEqual(mender.news(), [])

    def test_new_errors(self):
        for value in any_values() + DEEP + list(bends(COLUMNS)):
            if not oracle.right_columns(value):
                assert_raises(self, InvalidColumns, Mender, (value, COSTS))
                assert_raises(self, InvalidColumns, Mender, (value, None))
        for value in any_values() + DEEP + list(bends(COSTS)) + [(0, 1, 1), (1, 10, 1), (1, 1), (1,) * 4]:
            if not right_costs(COLUMNS, value):
                assert_raises(self, InvalidCosts, Mender, (COLUMNS, value))
                assert_raises(self, InvalidColumns, Mender, ((), value))
            else:
                self.assertEqual(Mender(COLUMNS, value).costs, value)

    def test_put_and_take(self):
        mender = made_mender(rows=(ROW, KEPT, ROW))
        self.assertEqual((mender.table, mender.row_names), ((ROW, KEPT, ROW), (0, 1, 2)))
        self.assertIsNone(mender.take(1))
        self.assertEqual((mender.table, mender.row_names), ((ROW, ROW), (0, 2)))
        self.assertEqual(mender.put(KEPT), 3)
        for name in (3, 0, 2):
            mender.take(name)
        self.assertEqual((mender.table, mender.row_names, mender.put(ROW), mender.row_names), ((), (), 4, (4,)))

    def test_full(self):
        for width, limit in [(1, 3), (2, 3), (3, 3), (4, 2)]:
            mender = Mender((None,) * width, (1,) * width)
            for k in range(limit):
                self.assertEqual(mender.put((k,) * width), k)
            with self.assertRaises(Full) as caught:
                mender.put((5,) * width)
            self.assertEqual(caught.exception.limit, limit)
            assert_raises(self, InvalidRow, mender.put, ((-1,) * width,))
            mender.take(0)
            self.assertEqual(mender.put((5,) * width), limit)

    def test_rules(self):
        mender = Mender(COLUMNS, COSTS)
        # rules that are not at peace are taken
        self.assertEqual([mender.add_rule(rule) for rule in [((), 2, 0), ((), 2, 1), FIRST]], [0, 1, 2])
        self.assertEqual(mender.price(), 0)
        mender.put(ROW)
        self.assertEqual((mender.price(), mender.mend(), mender.record()[0]), (None, None, "held"))
        self.assertIsNone(mender.drop_rule(1))
        self.assertEqual((mender.rules, mender.rule_names, mender.price()), ((((), 2, 0), FIRST), (0, 2), 1))
        for k in range(6):
            self.assertEqual(mender.add_rule(FIRST), k + 3)
        with self.assertRaises(Full) as caught:
            mender.add_rule(((), 2, 0))
        self.assertEqual(caught.exception.limit, 8)
        assert_raises(self, InvalidRule, mender.add_rule, (((), 2, 2),))
        mender.drop_rule(0)
        self.assertEqual(mender.add_rule(SECOND), 9)

    def test_pins_and_costs(self):
        mender = made_mender(rows=(ROW, KEPT))
        for cell in [(1, 0), (0, 2), (0, 0), (0, 2)]:
            self.assertIsNone(mender.pin(*cell))
        self.assertEqual(mender.pins, ((0, 0), (0, 2), (1, 0)))
        self.assertEqual(mender.price(), None)
        # a pin stays when a value is changed, and goes with its row
        mender.change(0, 0, 45)
        self.assertEqual((mender.pins, mender.price()), (((0, 0), (0, 2), (1, 0)), 0))
        mender.change(0, 0, 44)
        self.assertIsNone(mender.unpin(0, 2))
        self.assertIsNone(mender.unpin(0, 1))
        self.assertEqual((mender.pins, mender.price()), (((0, 0), (1, 0)), 5))
        self.assertIsNone(mender.set_cost(2, 9))
        self.assertEqual((mender.costs, mender.price()), ((1, 1, 9), 9))
        mender.take(0)
        self.assertEqual((mender.pins, mender.table), (((1, 0),), (KEPT,)))
        mender.put(ROW)
        self.assertEqual((mender.pins, mender.price()), (((1, 0),), 1))
        mender.pin(2, 2)
        self.assertEqual((mender.pins, mender.mend()[0][0]), (((1, 0), (2, 2)), 1))

    def test_errors(self):
        mender = made_mender(rows=(ROW, KEPT))
        mender.take(0)
        before = shown(mender)
        for value in NO_NAMES + [0, 2] + any_values() + DEEP:
            if not (oracle.integer(value) and value == 1):
                for call, more in [(mender.take, ()), (mender.change, (0, 0)), (mender.change, (9, -1)),
                                   (mender.change, (value, value)), (mender.pin, (0,)), (mender.pin, (9,)),
                                   (mender.unpin, (0,)), (mender.unpin, (value,))]:
                    assert_raises(self, InvalidNumber, call, (value,) + more)
            if not oracle.below(value, 3):
                for call, more in [(mender.change, (0,)), (mender.change, (-1,)), (mender.pin, ()), (mender.unpin, ())]:
                    assert_raises(self, InvalidNumber, call, (1, value) + more)
                assert_raises(self, InvalidNumber, mender.set_cost, (value, 1))
                assert_raises(self, InvalidNumber, mender.set_cost, (value, value))
            if not (oracle.integer(value) and value == 0):
                assert_raises(self, InvalidNumber, mender.drop_rule, (value,))
            for column in range(3):
                if not oracle.in_column(COLUMNS[column], value):
                    assert_raises(self, InvalidValue, mender.change, (1, column, value))
                if not (oracle.integer(value) and 1 <= value <= 9):
                    assert_raises(self, InvalidValue, mender.set_cost, (column, value))
            if not oracle.right_row(COLUMNS, value):
                assert_raises(self, InvalidRow, mender.put, (value,))
            if not oracle.right_rule(COLUMNS, value):
                assert_raises(self, InvalidRule, mender.add_rule, (value,))
        for cost in (0, 10, -1, True, "1", None):
            assert_raises(self, InvalidValue, mender.set_cost, (0, cost))
        for value in bends(FIRST):
            if not oracle.right_rule(COLUMNS, value):
                assert_raises(self, InvalidRule, mender.add_rule, (value,))
        self.assertTrue(same(shown(mender), before))
        self.assertEqual([mender.put(ROW), mender.add_rule(FIRST)], [2, 1])


class News(unittest.TestCase):
    def test_by_hand(self):
        mender = made_mender(rows=(ROW,))
        told = mender.news()
        self.assertEqual(told, [(0, 0, None, "always"), (0, 1, None, "never"), (0, 2, None, "never")])
        told.append("more")
        self.assertEqual(mender.news(), [])
        mender.set_cost(0, 5)
        self.assertEqual(mender.news(), [(0, 0, "always", "sometimes"), (0, 2, "never", "sometimes")])
        # what has come and gone in between is no news
        mender.set_cost(0, 9)
        mender.set_cost(0, 5)
        self.assertEqual(mender.news(), [])
        mender.pin(0, 0)
        self.assertEqual(mender.news(), [(0, 0, "sometimes", "never"), (0, 2, "sometimes", "always")])
        # while there is no mend no cell has a fate
        mender.pin(0, 2)
        self.assertEqual(mender.news(), [(0, 0, "never", None), (0, 1, "never", None), (0, 2, "always", None)])
        mender.put(KEPT)
        self.assertEqual(mender.news(), [])
        mender.unpin(0, 2)
        self.assertEqual([entry[2:] for entry in mender.news()], [(None, "never")] * 2 + [(None, "always")] + [(None, "never")] * 3)
        # a row that is gone
        mender.take(0)
        self.assertEqual(mender.news(), [(0, 0, "never", None), (0, 1, "never", None), (0, 2, "always", None)])
        mender.put(ROW)
        mender.take(1)
        self.assertEqual([entry[:2] for entry in mender.news()], [(name, column) for name in (1, 2) for column in range(3)])

    def test_news_and_marks(self):
        mender = made_mender(rows=())
        mender.mark()
        mender.put(ROW)
        self.assertEqual(len(mender.news()), 3)
        mender.mark()
        mender.change(0, 2, 1)
        self.assertEqual(mender.news(), [(0, 0, "always", "never")])
        mender.back(1)
        self.assertEqual(mender.news(), [])
        mender.back(0)
        self.assertEqual(mender.news(), [])
        mender.put(ROW)
        self.assertEqual([entry[0] for entry in mender.news()], [1, 1, 1])


class Papers(unittest.TestCase):
    def test_price(self):
        mender = made_mender(rules=(SECOND, FIRST), rows=(KEPT, ROW))
        mender.take(0)
        mender.drop_rule(0)
        self.assertEqual(mender.ask(), 0)
        kind, number, entries, tree = mender.paper(0)
        self.assertEqual((kind, number, [entry[:2] for entry in entries]), ("price", 1, [(1, 0)]))
        self.assertEqual(tree, (((1, 0), (1, 2)), ("step", 1, 1, ("clash",)), ((), ())))
        self.assertEqual(mender.stands(0), (True, True))
        # Putting rows, pinning, adding rules and greater costs never end a tree.
        mender.mark()
        mender.put(KEPT)
        mender.pin(1, 2)
        mender.add_rule(((), 1, 7))
        mender.set_cost(2, 9)
        self.assertEqual(mender.stands(0), (False, True))
        mender.unpin(1, 2)
        mender.change(2, 1, 7)
        self.assertEqual(mender.stands(0), (True, True))
        mender.pin(1, 0)
        self.assertEqual(mender.stands(0), (False, True))
        mender.back(0)
        self.assertEqual(mender.stands(0), (True, True))

    def test_price_ends(self):
        def ended(*calls):
            mender = made_mender(rows=(ROW, KEPT))
            mender.ask()
            for name, arguments in calls:
                getattr(mender, name)(*arguments)
            return mender.stands(0)

        value = made_mender(rows=(ROW, KEPT)).mend()[0][0]
        for calls, right in [
                ((), (True, True)), ([("take", (1,))], (True, True)), ([("take", (0,))], (False, False)),
                ([("drop_rule", (0,))], (True, False)), ([("drop_rule", (0,)), ("add_rule", (FIRST,))], (True, False)),
                ([("set_cost", (0, 2))], (False, True)), ([("set_cost", (0, 2)), ("set_cost", (0, 1))], (True, True)),
                ([("set_cost", (2, 1))], (True, True)), ([("pin", (0, 0))], (False, True)), ([("pin", (0, 1))], (True, True)),
                ([("pin", (1, 0))], (True, True)), ([("add_rule", (((), 0, 3),))], (False, True)),
                # values that have come to be what the entries name: nothing is changed by them
                ([("change", (0, 0, value))], (True, False)), ([("change", (0, 0, value)), ("pin", (0, 0))], (True, False)),
                ([("change", (0, 0, value)), ("set_cost", (0, 9))], (True, False)),
                ([("change", (0, 2, 1))], (True, False)), ([("change", (0, 0, 45))], (True, False)),
                ([("change", (0, 0, 45)), ("change", (0, 0, 44))], (True, True)),
                ([("change", (1, 2, 1))], (True, True)), ([("change", (0, 1, BIG))], (True, True)),
                ([("pin", (0, 0)), ("pin", (0, 2))], (False, True)),
                ([("take", (0,)), ("put", (ROW,))], (False, False))]:
            self.assertTrue(same(ended(*calls), right), (calls, ended(*calls)))

    def test_held(self):
        mender = made_mender(rows=(KEPT, ROW))
        mender.take(0)
        for column in range(3):
            mender.pin(1, column)
        mender.ask()
        kind, cells, war = mender.paper(0)
        self.assertEqual((kind, war), ("held", ("step", 0, 1, ("clash",))))
        self.assertTrue({(1, 0), (1, 2)} <= set(cells) <= {(1, 0), (1, 1), (1, 2)})
        self.assertEqual(mender.stands(0), (True, True))
        mender.mark()
        for calls, right in [
                ([("set_cost", (0, 9)), ("put", (KEPT,)), ("add_rule", (SECOND,))], True), ([("unpin", (1, 0))], False),
                ([("unpin", (1, 0)), ("pin", (1, 0))], True), ([("drop_rule", (0,))], False), ([("take", (1,))], False),
                ([("change", (1, 0, 45))], False), ([("change", (1, 2, 1))], False),
                ([("take", (1,)), ("put", (ROW,)), ("pin", (3, 0)), ("pin", (3, 2))], False)]:
            for name, arguments in calls:
                getattr(mender, name)(*arguments)
            self.assertEqual(mender.stands(0), (True, right), calls)
            mender.back(0)

    def test_held_by_rules_at_war(self):
        mender = made_mender(rules=(((), 2, 0), ((), 2, 1)), rows=(KEPT, ROW))
        mender.ask()
        self.assertEqual(mender.paper(0)[:2], ("held", ()))
        named = mender.paper(0)[2][2]
        mender.mark()
        mender.take(1 - named)
        self.assertEqual(mender.stands(0), (True, True))
        mender.back(0)
        mender.take(named)
        self.assertEqual(mender.stands(0), (True, False))

    def test_no_rows(self):
        mender = made_mender(rows=())
        mender.ask()
        self.assertEqual((mender.paper(0), mender.stands(0)), (("price", 0, (), ()), (True, True)))
        mender.put(ROW)
        self.assertEqual(mender.stands(0), (False, True))
        mender.drop_rule(0)
        self.assertEqual(mender.stands(0), (True, True))

    def test_full_and_numbers(self):
        mender = made_mender()
        for value in NO_NAMES + any_values():
            assert_raises(self, InvalidNumber, mender.paper, (value,))
            assert_raises(self, InvalidNumber, mender.stands, (value,))
        for k in range(8):
            self.assertEqual(mender.ask(), k)
        with self.assertRaises(Full) as caught:
            mender.ask()
        self.assertEqual(caught.exception.limit, 8)
        for value in [-1, 8, True, "0", (0,)] + any_values() + DEEP:
            if not oracle.below(value, 8):
                assert_raises(self, InvalidNumber, mender.paper, (value,))
                assert_raises(self, InvalidNumber, mender.stands, (value,))

    def test_papers_go_back(self):
        mender = made_mender()
        mender.ask()
        mender.mark()
        mender.pin(0, 0)
        self.assertEqual([mender.ask(), mender.ask()], [1, 2])
        mender.back(0)
        assert_raises(self, InvalidNumber, mender.paper, (1,))
        self.assertEqual(mender.ask(), 1)
        self.assertEqual(mender.paper(1), mender.paper(0))


class Marks(unittest.TestCase):
    def test_back(self):
        mender = made_mender(rows=(ROW, KEPT))
        mender.pin(0, 1)
        first = shown(mender)
        self.assertEqual(mender.mark(), 0)
        mender.take(0)
        mender.change(1, 0, 44)
        mender.add_rule(SECOND)
        mender.set_cost(1, 9)
        mender.pin(1, 2)
        mender.ask()
        second = shown(mender)
        self.assertEqual(mender.mark(), 1)
        mender.drop_rule(0)
        mender.unpin(1, 2)
        mender.put(ROW)
        self.assertEqual(mender.mark(), 2)
        self.assertIsNone(mender.back(1))
        self.assertTrue(same(shown(mender), second))
        assert_raises(self, InvalidMark, mender.back, (2,))
        self.assertEqual(mender.mark(), 2)
        for _ in range(2):
            mender.back(0)
            self.assertTrue(same(shown(mender), first))
        assert_raises(self, InvalidMark, mender.back, (1,))
        # names are never used again
        self.assertEqual([mender.put(ROW), mender.add_rule(SECOND)], [3, 2])
        self.assertEqual((mender.row_names, mender.rule_names), ((0, 1, 3), (0, 2)))

    def test_full(self):
        mender = made_mender()
        self.assertEqual([mender.mark() for _ in range(6)], list(range(6)))
        with self.assertRaises(Full) as caught:
            mender.mark()
        self.assertEqual(caught.exception.limit, 6)
        mender.back(5)
        assert_raises(self, Full, mender.mark, ())
        mender.back(0)
        self.assertEqual([mender.mark() for _ in range(5)], [1, 2, 3, 4, 5])

    def test_errors(self):
        for many in (0, 1, 3):
            mender = made_mender()
            for _ in range(many):
                mender.mark()
            for value in NO_NAMES + [many] + any_values() + DEEP:
                if not oracle.below(value, many):
                    with self.assertRaises(InvalidMark) as caught:
                        mender.back(value)
                    self.assertIs(caught.exception.number, value)
            self.assertEqual(mender.mark(), many)


class Histories(unittest.TestCase):
    """Histories of calls, beside the second writing."""

    def call(self, mender, plain, name, arguments):
        """Calls both, and asserts that they return or raise the same."""
        judged = {"mend": plain.mend_judged, "record": plain.record_judged}
        if name in judged:
            told = getattr(mender, name)()
            self.assertTrue(judged[name](told), (name, told))
            return None
        try:
            right = getattr(plain, name)(*arguments)
        except RuleError as error:
            with self.assertRaises(error.__class__) as caught:
                getattr(mender, name)(*arguments)
            self.same_error(error, caught.exception)
            return error
        told = getattr(mender, name)(*arguments)
        self.assertTrue(same(told, right), (name, arguments, told, right))
        if name == "ask":
            self.assertTrue(plain.keep_paper(mender.paper(told)), mender.paper(told))
        return None

    def same_error(self, right, told):
        self.assertIs(told.__class__, right.__class__)
        if isinstance(right, Full):
            self.assertEqual(told.limit, right.limit)
        if isinstance(right, InvalidMark):
            self.assertIs(told.number, right.number)

    def compare(self, mender, plain):
        told = (mender.table, mender.rules, mender.row_names, mender.rule_names, mender.pins, mender.costs)
        names = (tuple(plain.now["rows"]), tuple(plain.now["rules"]))
        self.assertTrue(same(told, (plain.table(), plain.rules()) + names + (plain.pins(), plain.costs())))
        self.assertTrue(same(mender.price(), plain.price()))
        question = plain.question() + (plain.costs(), plain.pinned())
        self.assertTrue(same((mender.price(), mender.mend()), (price(*question), mend(*question))))
        for number in range(len(plain.now["papers"])):
            self.assertTrue(same(mender.paper(number), plain.paper(number)))
            self.assertTrue(same(mender.stands(number), plain.stands(number)), (mender.paper(number)))

    def made_call(self, dice, plain):
        """A call, right as a rule."""
        columns, odd = plain.columns, dice.random() < 0.08
        row_name = dice.choice((list(plain.now["rows"]) or [0]) + [plain.row_count][:odd])
        rule_name = dice.choice((list(plain.now["rules"]) or [0]) + [plain.rule_count][:odd])
        column = dice.randrange(len(columns) + odd)
        value = made_value(dice, columns, column % len(columns))
        named = [entry for paper in plain.now["papers"] if paper[0] == "price" for entry in paper[2]]
        calls = {
            "put": (made_row(dice, columns),), "take": (row_name,), "change": (row_name, column, value),
            "add_rule": (made_rule(dice, columns),), "drop_rule": (rule_name,), "pin": (row_name, column),
            "unpin": (row_name, column), "set_cost": (column, dice.choice([1, 1, 2, 5, 9])), "price": (), "mend": (),
            "record": (), "news": (), "ask": (), "paper": (dice.randrange(9),), "stands": (dice.randrange(9),),
            "mark": (), "back": (dice.randrange(3),)}
        names = (["put"] * 6 + ["add_rule"] * 6 + ["change"] * 4 + ["take"] * 2 + ["drop_rule"] * 2 + ["ask"] * 4
                 + ["news"] * 3 + ["mark"] * 2 + ["back"] + ["paper", "stands"] + ["pin"] * 5 + ["unpin"] * 3
                 + ["set_cost"] * 2 + ["price", "mend", "record", "record"])
        name = dice.choice(names)
        if name == "change" and named and dice.random() < 0.5:
            # The very value that a paper names.
            return name, dice.choice(named)
        return name, calls[name]

    def made(self, seed, most=3):
        dice = random.Random(seed)
        columns = made_columns(seed, most)
        costs = tuple([dice.choice([1, 1, 2, 5]) for _ in columns])
        return dice, Mender(columns, costs), PlainMender(columns, costs)

    def test_histories(self):
        raised, truths = {}, {}
        for seed in range(60):
            dice, mender, plain = self.made(seed, 2 if seed % 3 else 4)
            for _ in range(50):
                name, arguments = self.made_call(dice, plain)
                error = self.call(mender, plain, name, arguments)
                raised[(name, type(error).__name__)] = raised.get((name, type(error).__name__), 0) + 1
                self.compare(mender, plain)
                for number, paper in enumerate(plain.now["papers"]):
                    told = (paper[0],) + plain.stands(number)
                    truths[told] = truths.get(told, 0) + 1
        for name in ("put", "take", "change", "add_rule", "drop_rule", "ask", "news", "mark", "back", "paper", "stands",
                     "pin", "unpin", "set_cost", "record"):
            self.assertGreater(raised.get((name, "NoneType"), 0), 15, name)
        for told in [("put", "Full"), ("ask", "Full"), ("back", "InvalidMark"), ("take", "InvalidNumber"),
                     ("change", "InvalidNumber"), ("pin", "InvalidNumber"), ("set_cost", "InvalidNumber")]:
            self.assertGreater(raised.get(told, 0), 3, (told, raised))
        for first in (True, False):
            for second in (True, False):
                self.assertGreater(truths.get(("price", first, second), 0), 100, truths)
            self.assertGreater(truths.get(("held", True, first), 0), 20, truths)

    def test_wrong_arguments_change_nothing(self):
        for seed in range(4):
            dice, mender, plain = self.made(seed + 100, 2)
            for _ in range(30):
                self.call(mender, plain, *self.made_call(dice, plain))
            last = plain.row_count - 1
            for value in any_values():
                for name, arguments in [
                        ("put", (value,)), ("take", (value,)), ("change", (value, 0, 0)), ("change", (last, value, 0)),
                        ("change", (last, 0, value)), ("add_rule", (value,)), ("drop_rule", (value,)), ("pin", (value, 0)),
                        ("pin", (last, value)), ("unpin", (value, 0)), ("unpin", (last, value)), ("set_cost", (value, 1)),
                        ("set_cost", (0, value)), ("paper", (value,)), ("stands", (value,)), ("back", (value,))]:
                    if self.call(mender, plain, name, arguments) is not None:
                        self.compare(mender, plain)
            self.call(mender, plain, "news", ())

    def test_two_mending_desks_share_nothing(self):
        columns, costs = (None, (0, 1)), (1, 2)
        both = [(Mender(columns, costs), PlainMender(columns, costs), random.Random(seed)) for seed in (1, 2)]
        for _ in range(60):
            for mender, plain, dice in both:
                self.call(mender, plain, *self.made_call(dice, plain))
            for mender, plain, _ in both:
                self.compare(mender, plain)

    def test_equal_histories(self):
        for seed in range(6):
            dice, one, plain = self.made(seed)
            other = Mender(renewed(plain.columns), renewed(plain.costs()))
            for _ in range(40):
                name, arguments = self.made_call(dice, plain)
                self.call(one, plain, name, arguments)
                left_alone(getattr(other, name), list(renewed(arguments)))
                self.assertTrue(same(shown(one), shown(other)))

    def test_arguments_are_left_alone(self):
        dice, mender, plain = self.made(3)
        for _ in range(60):
            name, arguments = self.made_call(dice, plain)
            self.call(mender, plain, name, arguments)
            if name not in ("ask", "put", "add_rule", "mark", "back"):
                self.assertTrue(left_alone(getattr(mender, name), list(arguments))[1])
                left_alone(getattr(plain, name, lambda: None), list(arguments))
        for value in any_values()[:-1]:
            for name in ["put", "take", "add_rule", "drop_rule", "paper", "stands", "back"]:
                self.assertTrue(left_alone(getattr(mender, name), [value])[1], name)
            for name in ["pin", "unpin", "set_cost"]:
                self.assertTrue(left_alone(getattr(mender, name), [value, value])[1], name)
            for arguments in [[value, 0, 0], [0, value, 0], [0, 0, value], [value, value, value]]:
                self.assertTrue(left_alone(mender.change, arguments)[1])

    def test_what_was_returned_stays(self):
        kept = []
        dice, mender, plain = self.made(5)
        for _ in range(80):
            self.call(mender, plain, *self.made_call(dice, plain))
            told = (shown(mender), mender.news())
            plain.news()
            kept.append((told, repr(told)))
        for told, before in kept:
            self.assertEqual(repr(told), before)

    def test_functions_of_the_same_names(self):
        for seed in range(20):
            dice, mender, plain = self.made(seed, 4)
            for _ in range(25):
                self.call(mender, plain, *self.made_call(dice, plain))
                question = plain.question() + (plain.costs(), plain.pinned())
                mender.news()
                plain.news()
                self.assertEqual(judge(mender.record()), ("right",))
                told = fates(*question)
                seen = {(name, j): fate for name, row in zip(mender.row_names, told or ()) for j, fate in enumerate(row)}
                self.assertEqual(seen, plain.now["seen"])


class Time(unittest.TestCase):
    def test_limits(self):
        for seed in range(10):
            dice = random.Random(seed)
            columns = ((0, 1, 2), (0, 1, 2), None)
            mender = Mender(columns, (1, 1, 1))
            start = time.monotonic()
            for _ in range(8):
                mender.add_rule(made_rule(dice, columns))
            for _ in range(3):
                mender.put(tuple([dice.randrange(3) for _ in range(3)]))
            mender.news()
            for _ in range(4):
                mender.ask()
                mender.pin(dice.choice(mender.row_names), dice.randrange(3))
                mender.record()
                self.assertEqual(len(mender.stands(0)), 2)
            self.assertLess(time.monotonic() - start, 4)


class Shape(unittest.TestCase):
    def test_defined_in_the_class(self):
        properties = ["table", "rules", "row_names", "rule_names", "pins", "costs"]
        for name in ["__init__", "put", "take", "change", "add_rule", "drop_rule", "pin", "unpin", "set_cost", "price", "mend",
                     "record", "news", "ask", "paper", "stands", "mark", "back"] + properties:
            self.assertIn(name, vars(Mender))
        for name in properties:
            self.assertIsInstance(vars(Mender)[name], property)


if __name__ == "__main__":
    unittest.main()
