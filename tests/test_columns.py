"""Point 4: columns, rows and tables."""

import random
import unittest

from whererules.columns import is_columns, is_row, is_table
from whererules.errors import InvalidColumns

import oracle
from samples import BIG, any_values, bends, left_alone, made_columns, made_row, made_table, nested, shared

RIGHT_COLUMNS = [
    (None,), (None, None, None, None), ((0,),), ((0, 1, 2),), ((0, 1), (0, 1)), ((5,), None, (0, 7, BIG), None),
    ((BIG, BIG + 1, 10 ** 40),), (None, (0, 1)), (None, None, None, (3,)),
]
WRONG_COLUMNS = [
    (), (None,) * 5, ((),), ((0, 1, 2, 3),), ((0,), (0,), (0,)), ((0, 1), (0, 1), (0, 1), None), ((1, 0),), ((0, 0),),
    ((0, 1, 1),), ((0, 2, 1),), ((-1,),), ((-1, 0),), ((True,),), ((False,),), ((0, True),), ((False, 1),), ((None,),),
    ((0, None),), (("0",),), ("01",), ([0, 1],), [None], [(0, 1)], [None, (0, 1)], (None, [0, 1]), (0,), (True,),
    (None, 0), (False, None), None, True, 0, "", "N", ((0, (1,)),), (((0,),),), ([None],), ((None, None),),
]


def wrong_things():
    return any_values() + [nested(20, tuple), nested(20, list), shared(20), (nested(19, tuple),), (shared(19), None)]


class Columns(unittest.TestCase):
    def test_right(self):
        for columns in RIGHT_COLUMNS:
            self.assertIs(is_columns(columns), True, columns)

    def test_wrong(self):
        for columns in WRONG_COLUMNS:
            self.assertIs(is_columns(columns), False, columns)

    def test_any_value(self):
        for value in wrong_things():
            self.assertIs(is_columns(value), oracle.right_columns(value))

    def test_bent(self):
        for columns in RIGHT_COLUMNS + [made_columns(seed) for seed in range(20)]:
            for value in bends(columns):
                self.assertIs(is_columns(value), oracle.right_columns(value), value)


class Rows(unittest.TestCase):
    COLUMNS = (None, (0, 1), (2, 5, BIG))

    def test_right(self):
        for row in [(0, 0, 2), (7, 1, 5), (BIG, 0, BIG), (10 ** 60, 1, 2)]:
            self.assertIs(is_row(self.COLUMNS, row), True, row)
        self.assertIs(is_row((None,), (0,)), True)
        self.assertIs(is_row(((4,),), (4,)), True)

    def test_wrong(self):
        for row in [(-1, 0, 2), (0, 2, 2), (0, 0, 3), (0, 0, -1), (0, 0), (0, 0, 2, 0), (), [0, 0, 2], (True, 0, 2),
                    (0, True, 2), (0, False, 2), (None, 0, 2), (0, None, 2), ("0", 0, 2), (0, "1", 2), ((0,), 0, 2),
                    ([0], 0, 2), (0, (0,), 2), (0, 0, BIG + 1), None, True, 0, "002"]:
            self.assertIs(is_row(self.COLUMNS, row), False, row)
        self.assertIs(is_row((None,), (-1,)), False)
        self.assertIs(is_row((None,), 0), False)

    def test_any_value(self):
        for columns in RIGHT_COLUMNS:
            for value in wrong_things():
                self.assertIs(is_row(columns, value), oracle.right_row(columns, value))

    def test_bent(self):
        for seed in range(20):
            columns = made_columns(seed)
            row = made_row(random.Random(seed), columns)
            self.assertIs(is_row(columns, row), True)
            for value in bends(row):
                self.assertIs(is_row(columns, value), oracle.right_row(columns, value), value)


class Tables(unittest.TestCase):
    COLUMNS = (None, (0, 1))

    def test_right(self):
        for many in range(9):
            self.assertIs(is_table(self.COLUMNS, ((3, 1),) * many), True, many)
            self.assertIs(is_table(self.COLUMNS, tuple([(k, k % 2) for k in range(many)])), True, many)
        self.assertIs(is_table(self.COLUMNS, ((BIG, 0), (0, 1), (BIG, 0))), True)

    def test_wrong(self):
        self.assertIs(is_table(self.COLUMNS, ((3, 1),) * 9), False)
        for table in [((3, 2),), ((3, 1), (3, 2)), ((3, 2), (3, 1)), [(3, 1)], [], ([3, 1],), ((3, 1), [3, 1]),
                      ((3, True),), ((False, 1),), ((3,),), ((3, 1, 0),), (3, 1), ((),), (None,), None, True, "", 0,
                      ((3, 1), None), ((None, 1),), (((3,), 1),), ((-1, 1),), (((3, 1),),)]:
            self.assertIs(is_table(self.COLUMNS, table), False, table)

    def test_any_value(self):
        for columns in RIGHT_COLUMNS:
            for value in wrong_things():
                self.assertIs(is_table(columns, value), oracle.right_table(columns, value))

    def test_bent(self):
        for seed in range(12):
            columns = made_columns(seed)
            table = made_table(random.Random(seed), columns, 3)
            self.assertIs(is_table(columns, table), True)
            for value in bends(table):
                self.assertIs(is_table(columns, value), oracle.right_table(columns, value), value)


class WrongColumns(unittest.TestCase):
    def test_columns_are_looked_at_first(self):
        for function in (is_row, is_table):
            for columns in WRONG_COLUMNS + [value for value in wrong_things() if not oracle.right_columns(value)]:
                for value in ((0,), (), ((0,),), None, [0], True):
                    self.assertRaises(InvalidColumns, function, columns, value)


class Unchanged(unittest.TestCase):
    def test_no_argument_is_changed(self):
        for value in [(0, 1), [0, 1], [[0, 1]], ([0, 1],), [None, [0, 1]], ((0, 1), [0, 1]), nested(20, list)]:
            self.assertTrue(left_alone(is_columns, [value])[1])
            for function in (is_row, is_table):
                self.assertTrue(left_alone(function, [(None, None), value])[1])
                self.assertTrue(left_alone(function, [value, value])[1])


if __name__ == "__main__":
    unittest.main()
