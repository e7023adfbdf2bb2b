"""Values for the tests: any values, bent values, and columns, rules and tables made by a seed."""

import copy
import random

BIG = 10 ** 30


def nested(depth, kind, core=0):
    """The core in so many tuples or lists of one item."""
    value = core
    for _ in range(depth):
        value = kind([value])
    return value


def any_values():
    """Values that are of no use as columns, rows, rules and so on, but for a few, and new ones at each call."""
    return [
        True, False, None, -1, 0, 1, 2, 9, BIG, -BIG, "", "0", "clash", "goal", "given",
        (), [], ((),), [()], ([],), [[]], (None,), [None], (True,), (False,), (0,), [0], (0, 1), ("clash",),
        (0, 0, 0), [0, 0, 0], ((), 0, 0), ((), 0, None), [(), 0, 0], (((0, 0),), 1, 0), ("step", 0, 0, ("clash",)),
        ((0, 0),), ((0, None),), ((0, 0), (0, 1)), [(0, 0)], ([0, 0],), ((0, True),), ((True, 0),), "abc",
        nested(20, tuple), nested(20, list), nested(20, tuple, None), nested(19, list, "x"),
        nested(10, list, nested(10, tuple)), nested(120, tuple, ("clash",)),
        (nested(20, list), nested(20, tuple), True), ((0, nested(18, tuple)),), shared(20),
    ]


def shared(depth):
    """A tuple with so many more tuples in it than it has objects that it cannot be walked through."""
    value = (0, 1)
    for _ in range(depth):
        value = (value, value)
    return value


ODD = [True, False, None, -1, 0, 1, 2, 3, 7, BIG, "step", "clash", "", (), [], (0,), [0], ("clash",), ("goal",)]


def bends(value):
    """The value with one part of it, at any depth, exchanged, left out, put in or turned round."""
    for odd in ODD:
        if not same(odd, value):
            yield odd
    if isinstance(value, int) and not isinstance(value, bool):
        yield value + 1
        yield value - 1
        yield str(value)
    if isinstance(value, str):
        yield value + "s"
        yield value.upper()
    if isinstance(value, tuple):
        yield from bends_of_tuple(value)


def bends_of_tuple(value):
    """The bends of a tuple that are not among ODD."""
    yield list(value)
    yield value + (0,)
    yield value + value[-1:]
    yield (value,)
    if len(value) > 1:
        yield value[::-1]
    for k in range(len(value)):
        yield value[:k] + value[k + 1:]
        for part in bends(value[k]):
            yield value[:k] + (part,) + value[k + 1:]


def same(one, other):
    """True if two values are equal and of equal kinds at each depth."""
    return repr(one) == repr(other)


def renewed(value):
    """An equal value that shares no tuple and no list with it."""
    if isinstance(value, tuple):
        return tuple([renewed(part) for part in value])
    if isinstance(value, list):
        return [renewed(part) for part in value]
    return value


def left_alone(function, arguments):
    """What the function returns or raises, and whether its arguments are as before."""
    before = copy.deepcopy(arguments)
    try:
        told = function(*arguments)
    except ValueError as error:
        told = error
    return told, same(before, arguments)


def made_columns(seed, most=4):
    """Columns, at most so many."""
    dice = random.Random(seed)
    columns = [None] * dice.randint(1, most)
    places = list(range(len(columns)))
    dice.shuffle(places)
    for place in places[:dice.choice([0, 1, 1, 2, 2])]:
        columns[place] = tuple(sorted(dice.sample(range(4), dice.choice([1, 2, 2, 3]))))
    return tuple(columns)


def made_value(dice, columns, column):
    """A value of a column, out of few."""
    if columns[column] is None:
        return dice.randint(0, 2)
    return dice.choice(columns[column])


def made_rule(dice, columns):
    """A rule for the columns."""
    column = dice.randrange(len(columns))
    pair = dice.random() < 0.5
    given = []
    for other in range(len(columns)):
        if other != column and dice.random() < 0.5:
            blank = pair and dice.random() < 0.6
            given.append((other, None if blank else made_value(dice, columns, other)))
    return (tuple(given), column, None if pair else made_value(dice, columns, column))


def made_rules(dice, columns, most):
    """Rules for the columns, at most so many."""
    return tuple([made_rule(dice, columns) for _ in range(dice.randint(0, most))])


def made_row(dice, columns):
    """A row of the columns."""
    return tuple([made_value(dice, columns, column) for column in range(len(columns))])


def made_table(dice, columns, most):
    """A table of the columns, with at most so many rows."""
    return tuple([made_row(dice, columns) for _ in range(dice.randint(0, most))])


def made_draft(dice, columns, most, share=None):
    """A draft of the columns, with at most so many rows, and None in such a share of its cells."""
    share = dice.choice([0.3, 0.6, 0.9]) if share is None else share
    rows, gaps = [], 0
    for _ in range(dice.randint(0, most)):
        row = []
        for column in range(len(columns)):
            gap = dice.random() < share and (columns[column] is None or gaps < 6)
            row.append(None if gap else made_value(dice, columns, column))
            gaps += gap and columns[column] is not None
        rows.append(tuple(row))
    return tuple(rows)


def made_small(dice, columns, cells=9):
    """A small table with at most so many cells."""
    return made_table(dice, columns, min(3, cells // len(columns)))


def made_some(dice, rows, share=0.5):
    """A set of cells of the rows."""
    return tuple([(i, j) for i, row in enumerate(rows) for j in range(len(row)) if dice.random() < share])


def made_view(dice, columns, most=3):
    """A view of the columns."""
    many = dice.randint(1, len(columns))
    branches = []
    for _ in range(dice.randint(1, most)):
        chosen = [(column, made_value(dice, columns, column)) for column in range(len(columns)) if dice.random() < 0.3]
        branches.append((tuple(chosen), tuple(dice.sample(range(len(columns)), many))))
    return tuple(branches)
