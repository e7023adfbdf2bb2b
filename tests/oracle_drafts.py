"""What DOC.md says of drafts, their trees, blames and corrections, written once more and as plainly as can be."""

from itertools import product

import oracle


def right_draft(columns, value):
    if type(value) is not tuple or len(value) > 8:
        return False
    if not all(type(row) is tuple and len(row) == len(columns) for row in value):
        return False
    entries = [(column, one) for row in value for column, one in zip(columns, row)]
    if not all(one is None or oracle.in_column(column, one) for column, one in entries):
        return False
    return len([1 for column, one in entries if column is not None and one is None]) <= 6


def is_filling(columns, rules, draft, value):
    if not oracle.right_table(columns, value) or len(value) != len(draft) or not oracle.all_hold(rules, value):
        return False
    return all(told in (None, one) for given, row in zip(draft, value) for told, one in zip(given, row))


class Told:
    """What is known in a case with any number of rows: for each cell its equal cells, and the values that they have."""

    def __init__(self, columns, rows):
        self.columns = columns
        self.rows = rows
        self.parts = {(row, column): (frozenset([(row, column)]), frozenset())
                      for row in range(rows) for column in range(len(columns))}

    def joined(self, cells, values):
        """What is known if these cells are equal, too, and have these values."""
        some = set(cells)
        for cell in cells:
            some |= self.parts[cell][0]
        values = frozenset(values).union(*[self.parts[cell][1] for cell in some])
        more = Told(self.columns, 0)
        more.rows = self.rows
        more.parts = dict(self.parts)
        for cell in some:
            more.parts[cell] = (frozenset(some), values)
        return more

    def values(self, cell):
        return self.parts[cell][1]

    def has(self, cell, value):
        return value in self.parts[cell][1]

    def equal(self, one, other):
        return other in self.parts[one][0] or bool(self.values(one) & self.values(other))

    def clash(self):
        return any(len(values) > 1 or not all(oracle.in_column(self.columns[cell[1]], value) for value in values)
                   for cell, (_, values) in self.parts.items())


def case_of_draft(columns, draft):
    told = Told(columns, len(draft))
    for row, entries in enumerate(draft):
        for column, value in enumerate(entries):
            if value is not None:
                told = told.joined([(row, column)], [value])
    return told


def step_fits(rules, told, k, row):
    if not oracle.below(k, len(rules)) or not oracle.below(row, told.rows) or rules[k][2] is None:
        return False
    return all(told.has((row, column), value) for column, value in rules[k][0])


def join_fits(rules, told, k, one, other):
    if not oracle.below(k, len(rules)) or rules[k][2] is not None:
        return False
    if not oracle.below(other, told.rows) or not oracle.below(one, other):
        return False
    for column, value in rules[k][0]:
        if value is None and not told.equal((one, column), (other, column)):
            return False
        if value is not None and not (told.has((one, column), value) and told.has((other, column), value)):
            return False
    return True


def behind(rules, told, head):
    """What is known behind a step, a join, or a split with a value, and whether it makes anything known."""
    if head[0] == "step":
        cell, want = (head[2], rules[head[1]][1]), rules[head[1]][2]
        return told.joined([cell], [want]), not told.has(cell, want)
    if head[0] == "join":
        one, other = [(row, rules[head[1]][1]) for row in head[2:4]]
        return told.joined([one, other], []), not told.equal(one, other)
    cell = tuple(head[1:3])
    return told.joined([cell], [head[3]]), not told.values(cell)


def tree_judged(rules, told, goal, tree, dull=None):
    """Whether the value is a tree of a draft that is right; heads that are not brisk are put into a list."""
    if type(tree) is not tuple or len(tree) == 0 or type(tree[0]) is not str:
        return False
    if told.clash() or tree[0] == "clash":
        return told.clash() and tree == ("clash",)
    if tree[0] == "goal":
        return len(tree) == 1 and goal(told)
    if tree[0] == "step" and len(tree) == 4 and step_fits(rules, told, tree[1], tree[2]):
        parts = [(tree[:3], tree[3])]
    elif tree[0] == "join" and len(tree) == 5 and join_fits(rules, told, *tree[1:4]):
        parts = [(tree[:4], tree[4])]
    elif tree[0] == "split" and len(tree) == 4 and split_fits(told, *tree[1:]):
        parts = [(tree[:3] + (value,), part) for value, part in zip(told.columns[tree[2]], tree[3])]
    else:
        return False
    for head, part in parts:
        more, news = behind(rules, told, head)
        if not news and dull is not None:
            dull.append(head)
        if not tree_judged(rules, more, goal, part, dull):
            return False
    return True


def split_fits(told, row, column, trees):
    if not oracle.below(row, told.rows) or not oracle.below(column, len(told.columns)) or type(trees) is not tuple:
        return False
    return told.columns[column] is not None and len(trees) == len(told.columns[column])


def is_war(columns, rules, draft, tree, brisk=False):
    """Whether the value is a war of the draft, and a brisk one if this is asked."""
    dull = []
    return tree_judged(rules, case_of_draft(columns, draft), lambda told: False, tree, dull) and not (brisk and dull)


def is_force(columns, rules, draft, cell, value, tree, brisk=False):
    """Whether the value is a force of the draft, the cell and the value."""
    dull = []
    known = case_of_draft(columns, draft)
    return tree_judged(rules, known, lambda told: told.has(cell, value), tree, dull) and not (brisk and dull)


def named_values(columns, rules, rows, column, fresh):
    """The values of a column, or of an open one those that are named, and so many that are not."""
    if columns[column] is not None:
        return columns[column]
    named = {row[column] for row in rows} - {None} | {want for _, place, want in rules if place == column} - {None}
    named |= {value for given, _, _ in rules for place, value in given if place == column} - {None}
    return tuple(sorted(named)) + tuple(range(max(named, default=0) + 1, max(named, default=0) + 1 + fresh))


def all_fillings(columns, rules, draft):
    """All fillings over the values that are named, and two or more that are not."""
    values = [named_values(columns, rules, draft, column, max(2, len(draft))) for column in range(len(columns))]
    rows = []
    for row in draft:
        some = product(*[values[column] if one is None else (one,) for column, one in enumerate(row)])
        rows.append([one for one in some if oracle.all_hold(rules, (one,))])
    return [table for table in product(*rows) if oracle.all_hold(rules, table)]


def forced(columns, fillings):
    """The cells in which all fillings have one value."""
    first = fillings[0]
    return tuple([tuple([one if all(table[i][j] == one for table in fillings) else None for j, one in enumerate(row)])
                  for i, row in enumerate(first)])


def right_small(columns, value):
    return oracle.right_table(columns, value) and len(value) <= 3 and len(value) * len(columns) <= 9


def all_cells(rows):
    return tuple([(i, j) for i, row in enumerate(rows) for j in range(len(row))])


def right_cell(rows, value):
    if type(value) is not tuple or len(value) != 2 or not all(oracle.integer(one) for one in value):
        return False
    return value in all_cells(rows)


def right_some(rows, value):
    """Whether the value is a set of cells of the table or draft."""
    if type(value) is not tuple or not all(right_cell(rows, cell) for cell in value):
        return False
    return list(value) == sorted(set(value))


def draft_of(small, some):
    """The draft that has the values of the small table in just these cells."""
    return tuple([tuple([one if (i, j) in some else None for j, one in enumerate(row)]) for i, row in enumerate(small)])


def differing(small, table):
    """The cells in which two tables of as many rows differ."""
    return tuple([cell for cell in all_cells(small) if small[cell[0]][cell[1]] != table[cell[0]][cell[1]]])


def standing(columns, rules, small):
    """All sets of cells that can stand together, as a dict of True and False, by going through tables of as many rows.

    The values are those that are named, and for each row one more that is not: row 0 has the first one of these,
    row 1 the first two, and so on, as it does not matter which values they are.
    """
    tables = [((), frozenset())]
    for i, told in enumerate(small):
        values = [named_values(columns, rules, small, column, i + 1) for column in range(len(columns))]
        rows = [(row, frozenset((i, j) for j, one in enumerate(row) if one == told[j]))
                for row in product(*values) if oracle.all_hold(rules, (row,))]
        # Rules hold in a table if they hold in each two rows of it.
        beside = {(row, one): oracle.all_hold(rules, (row, one)) for row, _ in rows
                  for one in {one for table, _ in tables for one in table}}
        tables = [(table + (row,), cells | more) for table, cells in tables for row, more in rows
                  if all(beside[(row, one)] for one in table)]
    kept = {cells for _, cells in tables}
    return {some: any(set(some) <= cells for cells in kept) for some in oracle.subsets(all_cells(small))}


def least(sets):
    """Those of the sets that have no other one of them among their own."""
    return [some for some in sets if not any(set(other) < set(some) for other in sets)]


def blames_by(stands):
    return sorted(least([some for some in stands if not stands[some]]))


def corrections_by(small, stands):
    """The least sets of cells all other cells than which can stand together."""
    rest = {some: tuple([cell for cell in all_cells(small) if cell not in some]) for some in stands}
    return sorted(least([some for some in stands if stands[rest[some]]]))


def meeting(small, sets):
    """The least sets of cells that have a cell in common with each of the sets."""
    some = oracle.subsets(all_cells(small))
    return sorted(least([cells for cells in some if all(set(cells) & set(one) for one in sets)]))
