"""Wrong arguments, alone and together."""

from itertools import combinations

from whererules.errors import (
    InvalidCells, InvalidColumns, InvalidGiven, InvalidNumber, InvalidRow, InvalidRule, InvalidRules, InvalidTable,
    InvalidSettled, InvalidValue, InvalidView)

from whererules.faults import InvalidCosts, InvalidDraft

from samples import BIG, any_values

# All for the columns (None, (0, 1), None).
COLUMNS = (None, (0, 1), None)
WRONG = {
    "columns": (InvalidColumns, [
        None, True, 0, "", (), [], [None, (0, 1), None], (None, [0, 1], None), (None, (1, 0), None), (None,) * 5,
        ((0,), (0,), (0,)), (None, (0, True), None), (None, (), None), (None, (-1, 0), None)]),
    "rules": (InvalidRules, [
        None, True, 0, "", [], [((), 0, 0)], (((), 0, 0),) * 9, ((), 0, 0), (((), 3, 0),), (((), 1, 2),),
        (((), 0, 0), [(), 0, 0]), (((), 0, True),), ((((0, None),), 1, 0),), (None,)]),
    "rule": (InvalidRule, [
        None, True, 0, "", (), [(), 0, 0], ([], 0, 0), ((), 3, 0), ((), -1, None), ((), 1, 2), ((), True, None),
        ((), 0, False), (((0, None),), 1, 0), (((0, 1),), 0, None), (((2, 0), (0, 0)), 1, None), ((), 0)]),
    "row": (InvalidRow, [
        None, True, 0, "", (), [0, 0, 0], (0, 0), (0, 2, 0), (0, True, 0), (-1, 0, 0), ((0, 0, 0),), (0, None, 0)]),
    "table": (InvalidTable, [
        None, True, 0, "", [], [(0, 0, 0)], ((0, 0, 0),) * 9, (0, 0, 0), ((0, 0),), ((0, 0, 0), [0, 0, 0]),
        ((0, 2, 0),), ((0, False, 0),), ((0, 0, -1),), (None,)]),
    "number": (InvalidNumber, [None, True, False, 0, 9, -1, BIG, "1", "", (1,), [1], ()]),
    "given": (InvalidGiven, [
        None, True, 0, "", [], [(0, 1)], ([0, 1],), ((3, 0),), ((-1, 0),), ((1, 2),), ((0, 1), (0, 1)),
        ((2, None), (0, None)), ((True, 1),), ((0, False),), ((0,),), ((0, 1, 1),), (0, 1), (None,), ((0, "1"),)]),
    # For a pair rule.
    "cells": (InvalidCells, [
        None, True, 0, "", [], [(0, 1)], ([0, 1],), ((0, 0),), ((0, 2),), ((2, 1),), ((-1, 1),), ((0, 1), (0, 1)),
        ((1, 1), (0, 1)), ((False, 1),), ((0, True),), ((0, 1), (True, 1)), ((0, 1), (0, 2)), (0, 1), ((0,),),
        ((0, 1, 1),), (None,), ((0, -1),), ((0, 1), (1, 1), (1, 1)), ((0, None),), (("0", 1),), ((0, 3),)]),
    "view": (InvalidView, [
        None, True, 0, "", (), [((), (0,))], (((), (0,)),) * 4, ((), (0,)), (((), ()),), (((), (0,)), ((), (0, 1))),
        (((), (0, 0)),), (((), (3,)),), (((), (True,)),), ((((1, 2),), (0,)),), ((((0, None),), (0,)),),
        ((((0, 1), (0, 1)), (0,)),), ((((2, 1), (0, 1)), (0,)),), (((), [0]),), (([], (0,)),), ([(), (0,)],)]),
    # For a view that keeps two columns.
    "view_rule": (InvalidRule, [
        None, True, 0, "", (), [(), 0, 0], ((), 2, 0), ((), 2, None), (((2, 1),), 0, 1), (((0, None),), 1, 0),
        (((0, 1),), 0, None), ((), -1, 0), ((), 0, -1), ((), True, 0), ((), 0, False), (((1, 0), (1, 0)), 0, None)]),
    "settled": (InvalidSettled, [
        None, True, 0, "", [], [0], (1, 0), (0, 0), (3,), (-1,), (True,), (0, True), (0, 1, 2, 3), ("0",), ((0,),), (None,)]),
    "draft": (InvalidDraft, [
        None, True, 0, "", [], [(0, 0, 0)], ((0, None, 0),) * 7, ((0, 0, 0),) * 9, (0, 0, 0), ((0, None),), ((0, 2, 0),),
        ((None, 0, 0), [0, 0, 0]), ((None, False, 0),), ((0, 0, -1),), (None,), ((None, "", None),), ((None,) * 4,)]),
    "small": (InvalidTable, [
        None, True, 0, "", [], [(0, 0, 0)], ((0, 0, 0),) * 4, (0, 0, 0), ((0, 0),), ((0, 0, 0), [0, 0, 0]),
        ((0, 2, 0),), ((0, False, 0),), ((0, 0, -1),), (None,), ((0, None, 0),)]),
    "costs": (InvalidCosts, [
        None, True, 0, "", (), [1, 1, 1], (1, 1), (1, 1, 1, 1), (0, 1, 1), (1, 10, 1), (1, 1, -1), (1, True, 1),
        (1, None, 1), (1, "1", 1), (1, (1,), 1), ((1, 1, 1),)]),
    # For a small table of two rows.
    "some": (InvalidCells, [
        None, True, 0, "", [], [(0, 1)], ([0, 1],), ((2, 0),), ((0, 3),), ((-1, 1),), ((0, 1), (0, 1)),
        ((1, 1), (0, 1)), ((False, 1),), ((0, True),), ((0, 1), (True, 1)), (0, 1), ((0,),), ((0, 1, 1),), (None,)]),
    "row_number": (InvalidNumber, [None, True, False, -1, 2, BIG, "0", "", (0,), [0], ()]),
}
# Other names for the same.
WRONG["master"] = WRONG["sound"] = WRONG["table"]
WRONG["other_rule"] = (InvalidValue, WRONG["rule"][1])
WRONG["peaceful"] = WRONG["rules"]
WRONG["pinned"] = WRONG["waived"] = WRONG["some"]
WRONG["integer"] = (InvalidNumber, [None, True, False, "1", "", (1,), [1], ()])
# For the draft and for the small table.
WRONG["draft_cell"] = WRONG["small_cell"] = (InvalidCells, [
    None, True, 0, "", (), [0, 1], (0,), (0, 1, 1), (2, 0), (0, 3), (-1, 0), (0, -1), (True, 0), (0, False), (None, 0),
    ((0, 1),), ("0", 1)])
RIGHT = {
    "columns": COLUMNS,
    "rules": ((((0, 1),), 1, 0), (((1, None),), 2, None)),
    "rule": (((0, None),), 2, None),
    "row": (1, 0, 1),
    "table": ((1, 1, 0), (1, 0, 1)),
    "number": 1,
    "given": ((0, 1), (1, None)),
    "cells": ((0, 1), (1, 1)),
    "view": (((), (0, 2)), (((1, 0),), (1, 0))),
    "view_rule": (((0, 2),), 1, None),
    "other_rule": (((0, None),), 2, None),
    "peaceful": ((((0, 1),), 1, 0), (((1, None),), 2, None)),
    "settled": (0, 2),
    "master": ((1, 1, 0), (1, 0, 1)),
    "sound": ((1, 0, 1), (0, 0, 1)),
    "row_number": 1,
    "draft": ((0, None, 1), (None, 1, None)),
    "small": ((1, 1, 0), (1, 0, 1)),
    "costs": (1, 9, 2),
    "some": ((0, 1), (1, 0)),
    "pinned": ((0, 0),),
    "waived": ((0, 1), (1, 2)),
    "integer": 2,
    "draft_cell": (1, 0),
    "small_cell": (1, 2),
    "value": ("clash",),
}


def check_first_wrong(test, function, names):
    """Asserts that the function raises just the error of the first wrong argument, alone or with others."""
    right = [RIGHT[name] for name in names]
    function(*right)
    places = [place for place, name in enumerate(names) if name in WRONG]
    for many in range(1, len(places) + 1):
        for chosen in combinations(places, many):
            error, bad = WRONG[names[chosen[0]]]
            for value in bad:
                arguments = list(right)
                for place in chosen:
                    arguments[place] = WRONG[names[place]][1][many]
                arguments[chosen[0]] = value
                assert_raises(test, error, function, arguments)


def check_any_wrong(test, function, names, is_right):
    """Asserts that the function raises the error of an argument that is any wrong value."""
    for place, name in enumerate(names):
        for value in any_values():
            if name in WRONG and not is_right(name, value):
                arguments = [RIGHT[other] for other in names]
                arguments[place] = value
                assert_raises(test, WRONG[name][0], function, arguments)


def assert_raises(test, error, function, arguments):
    """Asserts that the function raises just this error, and no other one derived from it."""
    with test.assertRaises(error, msg=(function, arguments)) as caught:
        function(*arguments)
    test.assertIs(caught.exception.__class__, error)
