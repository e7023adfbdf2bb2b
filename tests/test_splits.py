"""Points 3, 12 and 13: closed cells that are enough, least sets, stuck stands, and what a given settles."""

import random
import unittest

from whererules.errors import InvalidCells, InvalidGiven
from whererules.following import follows, tree
from whererules.splits import is_enough, is_stuck, least_sets, settles, stuck

import oracle
from samples import BIG, any_values, bends, made_columns, made_rule, made_rules, nested, same, shared

COLUMNS = (None, None, (0, 1))
RULES = ((((0, 44),), 2, 1), (((1, None), (2, 1)), 0, None))
RULE = (((0, 44), (1, None)), 2, None)
TWO = ((0, 1), None)
BOTH = ((((0, 0),), 1, 5), (((0, 1),), 1, 5))


def made(seed, most=3):
    """Columns with a closed one, rules, and a rule."""
    dice = random.Random(seed)
    columns = made_columns(seed, most)
    if columns == (None,) * len(columns):
        columns = ((0, 1),) + columns[1:]
    return columns, made_rules(dice, columns, 6), made_rule(dice, columns)


def has_tree(rules, known, goal, cells):
    """Whether there is a tree that splits no other cells: all moves are made first, then all cells are split."""
    while not known.clash() and not goal(known):
        facts = [((row, rules[k][1]), rules[k][2]) for k in range(len(rules)) for row in range(known.rows)
                 if oracle.step_fits(rules, known, k, row)]
        facts += [((0, rules[k][1]), (1, rules[k][1])) for k in range(len(rules)) if oracle.join_fits(rules, known, k)]
        facts = [fact for fact in facts if fact not in known.facts]
        if facts:
            known = known.and_also(*facts)
        elif cells:
            cases = [known.and_also((cells[0], value)) for value in known.columns[cells[0][1]]]
            return all(has_tree(rules, case, goal, cells[1:]) for case in cases)
        else:
            return False
    return True


def enough_by_trees(columns, rules, rule, cells):
    return has_tree(rules, oracle.case_of(columns, rule[0], oracle.rows_of(rule)), oracle.goal_of(rule), cells)


class Enough(unittest.TestCase):
    def judge(self, columns, rules, rule, cells):
        """Whether the cells are enough; asserts that what stuck returns shows it if they are not."""
        told, stand = is_enough(columns, rules, rule, cells), stuck(columns, rules, rule, cells)
        self.assertIs(told, stand is None)
        if stand is not None:
            self.assertTrue(oracle.stand_judged(columns, rules, rule, cells, stand), stand)
            self.assertIs(is_stuck(columns, rules, rule, cells, stand), True)
        return told

    def test_by_hand(self):
        self.assertTrue(self.judge(COLUMNS, RULES, RULE, ()))
        self.assertTrue(self.judge(COLUMNS, RULES, RULE, ((0, 2), (1, 2))))
        for cells, right in [((), False), (((0, 0),), True)]:
            self.assertIs(self.judge(TWO, BOTH, ((), 1, 5), cells), right)
        for cells, right in [((), False), (((0, 0),), False), (((1, 0),), False), (((0, 0), (1, 0)), True)]:
            self.assertIs(self.judge(TWO, BOTH, ((), 1, None), cells), right)
        # A split of one of two equal cells splits both.
        pairs = ((((0, 0),), 1, None), (((0, 1),), 1, None))
        for cells, right in [((), False), (((0, 0),), True), (((1, 0),), True), (((0, 0), (1, 0)), True)]:
            self.assertIs(self.judge(TWO, pairs, (((0, None),), 1, None), cells), right)
        # All values are refused.
        war = BOTH + (((), 1, 6),)
        self.assertFalse(self.judge(TWO, war, ((), 1, 7), ()))
        self.assertTrue(self.judge(TWO, war, ((), 1, 7), ((0, 0),)))
        self.assertTrue(self.judge(TWO, war, ((), 1, None), ((1, 0),)))
        # A rule that does not follow.
        self.assertFalse(self.judge(TWO, BOTH, ((), 1, 6), ((0, 0),)))
        # A column of one value.
        self.assertFalse(self.judge(((3,),), (), ((), 0, 3), ()))
        self.assertTrue(self.judge(((3,),), (), ((), 0, 3), ((0, 0),)))
        self.assertFalse(self.judge(((3,),), (), ((), 0, None), ((0, 0),)))
        self.assertTrue(self.judge(((3,),), (), ((), 0, None), ((0, 0), (1, 0))))

    def test_all_sets_by_trees(self):
        told = []
        for seed in range(300):
            columns, rules, rule = made(seed)
            for cells in oracle.subsets(oracle.closed_cells(columns, rule)):
                told.append(self.judge(columns, rules, rule, cells))
                self.assertIs(told[-1], enough_by_trees(columns, rules, rule, cells))
        self.assertTrue(told.count(True) > 200 and told.count(False) > 200)

    def test_all_sets_by_all_stands(self):
        asked = [(TWO, BOTH, ((), 1, None)), (TWO, BOTH, ((), 1, 5)), (TWO, (), (((0, None),), 1, None))]
        asked += [made(seed, 2) for seed in range(60)]
        for columns, rules, rule in asked:
            stands = list(oracle.stands_over(columns, rules, rule))
            if len(stands) < 3000:
                for cells in oracle.subsets(oracle.closed_cells(columns, rule)):
                    right = [oracle.stand_judged(columns, rules, rule, cells, stand) for stand in stands]
                    self.assertIs(is_enough(columns, rules, rule, cells), True not in right)
                    told = [is_stuck(columns, rules, rule, cells, stand) for stand in stands]
                    self.assertEqual(told, right)

    def test_all_closed_cells_are_enough_if_the_rule_follows(self):
        for seed in range(150):
            columns, rules, rule = made(seed)
            cells = oracle.closed_cells(columns, rule)
            self.assertIs(is_enough(columns, rules, rule, cells), follows(columns, rules, rule))
            shown = tree(columns, rules, rule)
            if shown is not None:
                split = []
                self.assertTrue(oracle.rule_tree_judged(columns, rules, rule, shown, split))
                self.assertTrue(is_enough(columns, rules, rule, tuple(sorted(set(split)))))

    def test_wrong_cells(self):
        two, one = (((0, None),), 1, None), (((0, 7),), 1, 3)
        columns = (None, None, (0, 1), (0, 1, 2))
        wrong = [((0, 0),), ((0, 1),), ((1, 1),), ((2, 2),), ((-1, 2),), ((0, 4),), ((0, -1),), ((0, -2),), ((BIG, 2),),
                 ((0, 3), (0, 2)), ((1, 2), (0, 2)), ((0, 2), (0, 2)), ((0, 2), (1, 2), (0, 3)),
                 [(0, 2)], ([0, 2],), ((0, 2), [0, 3]), [], ((False, 2),), ((True, 2),), ((0, 2), (True, 2)),
                 ((0, True),), ((0, None),), ((None, 2),), (0, 2), (((0, 2),),), ((0, 2, 2),), ((0,),), ((),),
                 None, True, "", 0, ("02",), (("0", 2),), ((0, "2"),), ((0, 2), None)]
        for function, more in [(is_enough, []), (stuck, []), (is_stuck, [None])]:
            for cells in wrong:
                for rule in (one, two):
                    self.assertRaises(InvalidCells, function, columns, (), rule, cells, *more)
            # a value rule has no row 1
            for cells in [((1, 2),), ((0, 2), (1, 2))]:
                function(columns, (), two, cells, *more)
                self.assertRaises(InvalidCells, function, columns, (), one, cells, *more)
            for cells in [shared(20), (shared(20),), nested(19, tuple, (0, 2)), nested(20, list), (nested(19, list),)]:
                self.assertRaises(InvalidCells, function, columns, (), one, cells, *more)

    def test_right_cells(self):
        columns = ((0, 1), None, None, (2, 3, 4))
        for rule in [((), 1, 0), ((), 1, None), ((), 0, 0), (((0, None), (3, 2)), 1, None)]:
            for cells in oracle.subsets(oracle.closed_cells(columns, rule)):
                is_enough(columns, (), rule, cells)
                stuck(columns, (), rule, cells)
                is_stuck(columns, (), rule, cells, None)


class IsStuck(unittest.TestCase):
    # The two rows are equal in column 0, have 4 in column 1, and rule 0 makes column 2 of row 0 known.
    COLUMNS = (None, None, (0, 1), (2, 3))
    RULES = ((((3, 2),), 2, 0), (((0, None), (2, 1)), 3, None))
    RULE = (((0, None), (1, 4)), 2, None)
    STAND = (((None, 4, 0, 2), (None, 4, 1, 3)), (0, 1))
    CELLS = ((0, 2), (0, 3), (1, 3))

    def told(self, value, cells=CELLS):
        told = is_stuck(self.COLUMNS, self.RULES, self.RULE, cells, value)
        self.assertIs(told, oracle.stand_judged(self.COLUMNS, self.RULES, self.RULE, cells, value), value)
        return told

    def test_right(self):
        self.assertTrue(self.told(self.STAND))
        self.assertTrue(self.told(self.STAND, ()))
        # Column 1 need not be named: the cells have the same value. What nobody asks for may be known, too.
        self.assertTrue(self.told((self.STAND[0], (0,))))
        self.assertTrue(self.told((((BIG, 4, 0, 2), (BIG, 4, 1, 3)), (0, 1))))
        self.assertTrue(self.told((((7, 4, 0, 2), (7, 4, 1, 3)), ())))
        self.assertTrue(self.told((((None, 4, None, None), (None, 4, None, None)), (0,)), ()))

    def test_each_property_broken(self):
        first, second = self.STAND[0]
        for value in [
                # a value that is none of its column
                ((first, (None, 4, 1, 4)), (0, 1)), ((first, (None, 4, 2, 3)), (0, 1)),
                (((-1, 4, 0, 2), (-1, 4, 1, 3)), (0, 1)), (((0, 4, 0, 5), (0, 4, 1, 3)), (0, 1)),
                # equal cells with other entries
                (self.STAND[0], (0, 1, 2)), (self.STAND[0], (0, 1, 3)), (((5, 4, 0, 2), second), (0, 1)),
                (((5, 4, 0, 2), (6, 4, 1, 3)), (0, 1)),
                # what is known in the case of the rule is not known
                (self.STAND[0], ()), (self.STAND[0], (1,)), (((5, 4, 0, 2), (6, 4, 1, 3)), (1,)),
                (((None, None, 0, 2), second), (0,)), ((first, (None, 5, 1, 3)), (0,)),
                (((None, 5, 0, 2), (None, 5, 1, 3)), (0, 1)), (((None, None, 0, 2), (None, None, 1, 3)), (0, 1)),
                # a cell of the set without a value
                ((first, (None, 4, 1, None)), (0, 1)), (((None, 4, None, 3), second), (0, 1)),
                # a step or a join that makes something known
                (((None, 4, 1, 2), (None, 4, 0, 3)), (0, 1)), ((first, (None, 4, None, 2)), (0, 1)),
                (((None, 4, 1, 3), (None, 4, 1, 2)), (0, 1, 2)),
                # the goal
                (((None, 4, 0, 2), (None, 4, 0, 3)), (0, 1)), (((None, 4, 0, 2), (None, 4, 0, 2)), (0, 1, 2, 3))]:
            self.assertFalse(self.told(value), value)
        self.assertTrue(self.told(((first, (None, 4, 1, None)), (0, 1)), ((0, 2), (0, 3))))

    def test_a_join_that_makes_something_known(self):
        rules = ((((2, 1),), 0, None),)
        columns, rule = (None, None, (0, 1)), (((1, 4),), 0, None)
        for known, equal, right in [
                (((None, 4, None), (None, 4, None)), (), True), (((None, 4, 1), (None, 4, None)), (), True),
                (((None, 4, 1), (None, 4, 1)), (), False), (((None, 4, 0), (None, 4, 0)), (2,), True),
                (((None, 4, None), (None, 4, None)), (2,), True), (((5, 4, 1), (6, 4, 1)), (), False),
                (((5, 4, 1), (6, 4, 0)), (), True), (((None, 4, 1), (None, 4, 1)), (0,), False)]:
            told = is_stuck(columns, rules, rule, (), (known, equal))
            self.assertIs(told, right)
            self.assertIs(told, oracle.stand_judged(columns, rules, rule, (), (known, equal)))

    def test_the_goal_of_equal_values(self):
        for known, equal in [((5, 5), ()), ((5, 5), (0,)), ((None, None), (0,))]:
            self.assertIs(is_stuck((None,), (), ((), 0, None), (), (((known[0],), (known[1],)), equal)), False)
        for known in ((5, 6), (5, None), (None, 5), (None, None)):
            self.assertIs(is_stuck((None,), (), ((), 0, None), (), (((known[0],), (known[1],)), ())), True)

    def test_forms(self):
        first, second = self.STAND[0]
        for value in [
                list(self.STAND), ([first, second], (0, 1)), ((list(first), second), (0, 1)), (self.STAND[0], [0, 1]),
                (self.STAND[0], (1, 0)), (self.STAND[0], (0, 0, 1)), (self.STAND[0], (False, 1)),
                (self.STAND[0], (0, True)), (self.STAND[0], (0, 4)), (self.STAND[0], (-1, 0)), (self.STAND[0], 0),
                (self.STAND[0], None), (self.STAND[0], (0, 1), ()), (self.STAND[0],), ((first,), (0, 1)),
                ((first, second, second), (0, 1)), ((first[:3], second), (0, 1)), ((first + (0,), second), (0, 1)),
                ((first, second + (None,)), (0, 1)), ((first, None), (0, 1)), (None, (0, 1)), ((), ()), (), None, True,
                (((None, 4, False, 2), second), (0, 1)), ((first, (None, 4, True, 3)), (0, 1)),
                (((True, 4, 0, 2), (True, 4, 1, 3)), (0, 1)), ((("5", 4, 0, 2), ("5", 4, 1, 3)), (0, 1)),
                (self.STAND[0], ("0", "1")), (self.STAND[0], ((0,), (1,))), ((((),) * 4, second), (0, 1)),
                (((None, 4, [0], 2), second), (0, 1)), (self.STAND[0], (0, 1, 2, 3, 4))]:
            self.assertFalse(self.told(value), value)

    def test_one_row(self):
        rule = (((1, 4),), 2, 1)
        for value, right in [
                ((((None, 4, 0, 2),), ()), True), ((((None, 4, 1, 3),), ()), False), ((((None, 4, 0, 3),), ()), True),
                ((((None, 4, None, 3),), ()), False), ((((None, 4, 0, 2),), (0,)), False),
                ((((None, 4, 0, 2),), (1,)), False), ((((None, None, 0, 2),), ()), False),
                ((((None, 5, 0, 2),), ()), False), (((None, 4, 0, 2), ()), False),
                ((((None, 4, 0, 2), (None, 4, 0, 2)), ()), False), ((((None, 4, 0, 2),), []), False)]:
            told = is_stuck(self.COLUMNS, self.RULES, rule, ((0, 2),), value)
            self.assertIs(told, right, value)
            self.assertIs(told, oracle.stand_judged(self.COLUMNS, self.RULES, rule, ((0, 2),), value))

    def test_bent(self):
        for value in bends(self.STAND):
            self.told(value)
        for seed in range(80):
            columns, rules, rule = made(seed)
            for cells in oracle.subsets(oracle.closed_cells(columns, rule))[:3]:
                stand = stuck(columns, rules, rule, cells)
                if stand is not None:
                    for value in bends(stand):
                        told = is_stuck(columns, rules, rule, cells, value)
                        self.assertIs(told, oracle.stand_judged(columns, rules, rule, cells, value), value)

    def test_any_value(self):
        more = [shared(20), (shared(19), shared(19)), (self.STAND[0], shared(20)), nested(100, tuple, self.STAND),
                ((shared(20), shared(20)), ()), (self.STAND[0], nested(90, list)), ((nested(90, tuple),) * 2, ())]
        for value in any_values() + more:
            self.assertFalse(self.told(value))


class LeastSets(unittest.TestCase):
    def judge(self, columns, rules, rule):
        told = least_sets(columns, rules, rule)
        enough = [cells for cells in oracle.subsets(oracle.closed_cells(columns, rule))
                  if enough_by_trees(columns, rules, rule, cells)]
        least = [cells for cells in enough
                 if not any(set(other) < set(cells) for other in enough)]
        self.assertEqual(told, sorted(least))
        self.assertIs(told.__class__, list)
        return told

    def test_by_hand(self):
        self.assertEqual(self.judge(TWO, BOTH, ((), 1, 5)), [((0, 0),)])
        self.assertEqual(self.judge(TWO, BOTH, ((), 1, None)), [((0, 0), (1, 0))])
        self.assertEqual(self.judge(TWO, BOTH, ((), 1, 6)), [])
        self.assertEqual(self.judge(COLUMNS, RULES, RULE), [()])
        pairs = ((((0, 0),), 1, None), (((0, 1),), 1, None))
        self.assertEqual(self.judge(TWO, pairs, (((0, None),), 1, None)), [((0, 0),), ((1, 0),)])
        # One set begins like another one, and neither has all cells of the other.
        columns = ((0, 1), (0, 1), None)
        rules = ((((0, 0),), 2, 5), (((0, 1),), 2, 5), (((1, 0),), 2, 5), (((1, 1),), 2, 5))
        found = [((0, 0), (1, 0)), ((0, 0), (1, 1)), ((0, 1), (1, 0)), ((0, 1), (1, 1))]
        self.assertEqual(self.judge(columns, rules, ((), 2, None)), found)
        self.assertEqual(self.judge(columns, rules, ((), 2, 5)), [((0, 0),), ((0, 1),)])

    def test_a_smaller_set_may_come_later(self):
        # By cell (0, 0) alone or together with (1, 0), and by (0, 1) alone in another way.
        columns = ((0, 1), (0, 1), None)
        rules = ((((0, 0),), 2, 5), (((0, 1), (1, 0)), 2, 5), (((0, 1), (1, 1)), 2, 5), (((1, 0),), 2, 5))
        self.judge(columns, rules, ((), 2, 5))
        self.judge(columns, rules, ((), 2, None))

    def test_against_all_sets(self):
        told = []
        for seed in range(400):
            told.append(self.judge(*made(seed)))
        self.assertTrue({0, 1, 2} <= {len(found) for found in told})
        self.assertTrue({0, 1, 2} <= {len(cells) for found in told for cells in found})

    def test_empty_if_the_rule_does_not_follow(self):
        for seed in range(200):
            columns, rules, rule = made(seed)
            self.assertIs(least_sets(columns, rules, rule) == [], not follows(columns, rules, rule))


class Settles(unittest.TestCase):
    def test_by_hand(self):
        self.assertEqual(settles(COLUMNS, RULES, ((0, 44),)), (44, "free", 1))
        self.assertEqual(settles(COLUMNS, RULES, ()), ("free", "free", "free"))
        self.assertEqual(settles(COLUMNS, RULES, ((1, None), (2, 1))), ("same", "same", 1))
        self.assertEqual(settles(COLUMNS, RULES, ((1, 3), (2, 1))), ("same", 3, 1))
        self.assertEqual(settles(COLUMNS, RULES, ((0, 44), (1, 7))), (44, 7, 1))
        self.assertEqual(settles(COLUMNS, RULES, ((0, 44), (1, None), (2, None))), (44, "same", 1))
        self.assertEqual(settles(COLUMNS, RULES, ((0, 44), (1, None), (2, 0))), ("never",) * 3)
        self.assertEqual(settles(COLUMNS, RULES, ((0, BIG), (1, None), (2, 0))), (BIG, "same", 0))
        self.assertEqual(settles(COLUMNS, (), ()), ("free",) * 3)

    def test_never(self):
        self.assertEqual(settles((None, None), (((), 0, 1), ((), 0, 2)), ()), ("never",) * 2)
        self.assertEqual(settles((None, None), (((), 0, 1),), ((0, 2),)), ("never",) * 2)
        self.assertEqual(settles((None, None), (((), 0, 1),), ((0, 1),)), (1, "free"))
        self.assertEqual(settles(TWO, BOTH, ((1, 6),)), ("never",) * 2)
        self.assertEqual(settles(TWO, BOTH, ((1, 5),)), ("free", 5))
        self.assertEqual(settles(TWO, BOTH + (((), 1, 6),), ((0, None),)), ("never",) * 2)

    def test_closed_columns(self):
        self.assertEqual(settles(((3,),), (), ()), (3,))
        self.assertEqual(settles(((3,), (0, 1)), (), ((0, None),)), (3, "free"))
        self.assertEqual(settles(((0, 1), (3,)), (), ((0, None), (1, None))), ("same", 3))
        self.assertEqual(settles(TWO, BOTH, ()), ("free", 5))
        self.assertEqual(settles(TWO, BOTH, ((0, None),)), ("same", 5))
        # One value is refused, so all rows have the other one.
        refused = ((((0, 0),), 1, 5), ((), 1, 6))
        self.assertEqual(settles(TWO, refused, ()), (1, 6))
        self.assertEqual(settles(((0, 1, 2), None), refused, ()), ("free", 6))

    def test_the_least_values_are_no_exception(self):
        self.assertEqual(settles((None, None), (), ()), ("free", "free"))
        self.assertEqual(settles((None, None), ((((0, 0),), 1, 1),), ((1, None),)), ("free", "same"))

    def test_pair_rules(self):
        rules = ((((0, None),), 1, None), (((1, None),), 2, None))
        three = (None, None, None)
        self.assertEqual(settles(three, rules, ((0, None),)), ("same", "same", "same"))
        self.assertEqual(settles(three, rules, ((0, 7),)), (7, "same", "same"))
        self.assertEqual(settles(three, rules, ((1, None),)), ("free", "same", "same"))
        self.assertEqual(settles(three, rules, ((2, None),)), ("free", "free", "same"))
        self.assertEqual(settles(three, rules + (((), 0, None),), ()), ("same", "same", "same"))

    def test_against_all_tables(self):
        told = []
        for seed in range(400):
            dice = random.Random(seed)
            columns, rules, rule = made(seed)
            given = list(rule[0])
            if dice.random() < 0.3 and rule[1] not in [place for place, _ in given]:
                given.append((rule[1], rule[2]))
            if dice.random() < 0.3:
                given = [(place, None if dice.random() < 0.5 else value) for place, value in given]
            given = tuple(sorted(given, key=lambda entry: entry[0]))
            answer = settles(columns, rules, given)
            self.assertTrue(same(answer, oracle.settled_by_tables(columns, rules, given)), (columns, rules, given))
            told += list(answer)
        self.assertTrue({"never", "same", "free", 0, 1, 2} <= set(told))
        for kind in ("never", "same", "free", 0):
            self.assertTrue(told.count(kind) > 30, kind)

    def test_wrong_givens(self):
        for given in [None, True, 0, "", [], [(0, 44)], ([0, 44],), ((3, 0),), ((-1, 0),), ((2, 2),), ((2, True),),
                      ((0, True),), ((False, 1),), ((0, 1), (0, 1)), ((0, None), (0, None)), ((1, 1), (0, 1)),
                      ((0, -1),), ((0,),), ((0, 1, 2),), (0, 44), (None,), ((None, 1),), ((0, "1"),), ((0, (1,)),),
                      ((0, 1), None), nested(20, tuple), shared(20), (shared(20),), ((0, shared(20)),)]:
            self.assertRaises(InvalidGiven, settles, COLUMNS, RULES, given)
        for value in any_values():
            if not oracle.right_given(COLUMNS, value):
                self.assertRaises(InvalidGiven, settles, COLUMNS, RULES, value)


if __name__ == "__main__":
    unittest.main()
