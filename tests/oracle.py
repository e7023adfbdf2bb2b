"""What DOC.md says of rules, tables, trees and stands, written once more and as plainly as can be.

Nothing of the package is used here.
"""

from itertools import product


def integer(value):
    return type(value) is int


def below(value, limit):
    return integer(value) and value in range(limit)


def in_column(column, value):
    return integer(value) and value >= 0 and (column is None or value in column)


def right_columns(value):
    if type(value) is not tuple or len(value) not in (1, 2, 3, 4):
        return False
    closed = [entry for entry in value if entry is not None]
    if not all(type(entry) is tuple and len(entry) in (1, 2, 3) for entry in closed):
        return False
    if not all(in_column(None, one) for entry in closed for one in entry):
        return False
    return len(closed) <= 2 and all(list(entry) == sorted(set(entry)) for entry in closed)


def right_row(columns, value):
    if type(value) is not tuple or len(value) != len(columns):
        return False
    return all(in_column(*both) for both in zip(columns, value))


def right_table(columns, value):
    return type(value) is tuple and len(value) <= 8 and all(right_row(columns, row) for row in value)


def right_given(columns, value):
    if type(value) is not tuple:
        return False
    if not all(type(entry) is tuple and len(entry) == 2 and below(entry[0], len(columns)) for entry in value):
        return False
    places = [entry[0] for entry in value]
    if places != sorted(set(places)):
        return False
    return all(entry[1] is None or in_column(columns[entry[0]], entry[1]) for entry in value)


def right_rule(columns, value):
    if type(value) is not tuple or len(value) != 3:
        return False
    given, column, want = value
    if not right_given(columns, given) or not below(column, len(columns)):
        return False
    if any(entry[0] == column for entry in given):
        return False
    if want is None:
        return True
    return in_column(columns[column], want) and all(entry[1] is not None for entry in given)


def right_rules(columns, value):
    return type(value) is tuple and len(value) <= 8 and all(right_rule(columns, rule) for rule in value)


def row_matches(given, row):
    return all(value is None or row[column] == value for column, value in given)


def rule_holds(rule, table):
    given, column, want = rule
    if want is not None:
        return all(row[column] == want for row in table if row_matches(given, row))
    for one, other in product(table, table):
        if row_matches(given, one) and row_matches(given, other):
            if all(one[place] == other[place] for place, _ in given) and one[column] != other[column]:
                return False
    return True


def all_hold(rules, table):
    return all(rule_holds(rule, table) for rule in rules)


def all_breaks(rules, table):
    found = []
    for k, rule in enumerate(rules):
        for i, row in enumerate(table):
            if rule[2] is not None and not rule_holds(rule, (row,)):
                found.append((k, i))
            for j in range(i + 1, len(table)):
                if rule[2] is None and not rule_holds(rule, (row, table[j])):
                    found.append((k, i, j))
    return sorted(found)


def without(table, out):
    return tuple([row for number, row in enumerate(table) if number not in out])


def count_tree_judged(rules, table, number, value, out=()):
    if type(value) is not tuple or len(value) != 2 or type(value[0]) is not tuple or type(value[1]) is not tuple:
        return False
    told, trees = value
    if not all(integer(one) for one in told) or told not in all_breaks(rules, table):
        return False
    rows = told[1:]
    if set(rows) & set(out):
        return False
    if number == 1:
        return trees == ()
    if len(trees) != len(rows):
        return False
    return all(count_tree_judged(rules, table, number - 1, tree, out + (row,)) for row, tree in zip(rows, trees))


def values_of(columns, column, rules):
    """Values of a column, with all that rules name, and two more of an open one."""
    if columns[column] is not None:
        return columns[column]
    named = [want for _, place, want in rules if place == column and want is not None]
    named += [value for given, _, _ in rules for place, value in given if place == column and value is not None]
    return tuple(sorted(set(named))) + (max(named, default=0) + 1, max(named, default=0) + 2)


def rows_over(columns, rules):
    """So many rows that one of them, or two, tell whatever any rows of the columns tell of the rules."""
    return list(product(*[values_of(columns, column, rules) for column in range(len(columns))]))


def kept_by_a_row(columns, rules):
    return any(all_hold(rules, (row,)) for row in rows_over(columns, rules))


def tables_of(columns, rules, many):
    """The tables of so many such rows in which the rules hold, the last argument of the rules left out."""
    rows = [row for row in rows_over(columns, rules) if all_hold(rules[:-1], (row,))]
    return [table for table in product(rows, repeat=many) if all_hold(rules[:-1], table)]


def rule_follows(columns, rules, rule):
    many = 1 if rule[2] is not None else 2
    return all(rule_holds(rule, table) for table in tables_of(columns, rules + (rule,), many))


class Known:
    """What is known in a case, as a list of facts: (cell, value), or (cell, cell)."""

    def __init__(self, columns, rows, facts=()):
        self.columns = columns
        self.rows = rows
        self.cells = [(row, column) for row in range(rows) for column in range(len(columns))]
        self.facts = tuple(facts)

    def and_also(self, *facts):
        return Known(self.columns, self.rows, self.facts + facts)

    def linked(self, cell):
        """The cells that are equal to the cell, directly or over other ones."""
        found = {cell}
        while True:
            more = {b for a, b in self.facts if a in found and b in self.cells}
            more |= {a for a, b in self.facts if b in found}
            if more <= found:
                return found
            found |= more

    def values(self, cell):
        return {b for a, b in self.facts if a in self.linked(cell) and b not in self.cells}

    def has(self, cell, value):
        return value in self.values(cell)

    def equal(self, one, other):
        return other in self.linked(one) or bool(self.values(one) & self.values(other))

    def clash(self):
        for cell in self.cells:
            if len(self.values(cell)) > 1:
                return True
            if not all(in_column(self.columns[cell[1]], value) for value in self.values(cell)):
                return True
        return False


def case_of(columns, given, rows):
    facts = []
    for column, value in given:
        for row in range(rows):
            if value is not None:
                facts.append(((row, column), value))
        if value is None and rows == 2:
            facts.append(((0, column), (1, column)))
    return Known(columns, rows, facts)


def rows_of(rule):
    return 1 if rule[2] is not None else 2


def goal_of(rule):
    _, column, want = rule
    if want is not None:
        return lambda known: known.has((0, column), want)
    return lambda known: known.equal((0, column), (1, column))


def step_fits(rules, known, k, row):
    if not below(k, len(rules)) or not below(row, known.rows) or rules[k][2] is None:
        return False
    return all(known.has((row, column), value) for column, value in rules[k][0])


def join_fits(rules, known, k):
    if not below(k, len(rules)) or known.rows != 2 or rules[k][2] is not None:
        return False
    for column, value in rules[k][0]:
        if value is None and not known.equal((0, column), (1, column)):
            return False
        if value is not None and not (known.has((0, column), value) and known.has((1, column), value)):
            return False
    return True


def tree_judged(rules, known, goal, tree, split=None):
    """Whether the value is a tree that is right in the case; the cells that it splits are put into a list."""
    if type(tree) is not tuple or len(tree) == 0 or type(tree[0]) is not str:
        return False
    if known.clash() or tree[0] == "clash":
        return known.clash() and tree == ("clash",)
    if tree[0] == "goal":
        return len(tree) == 1 and goal(known)
    if tree[0] == "step" and len(tree) == 4 and step_fits(rules, known, tree[1], tree[2]):
        more = known.and_also(((tree[2], rules[tree[1]][1]), rules[tree[1]][2]))
        return tree_judged(rules, more, goal, tree[3], split)
    if tree[0] == "join" and len(tree) == 3 and join_fits(rules, known, tree[1]):
        column = rules[tree[1]][1]
        return tree_judged(rules, known.and_also(((0, column), (1, column))), goal, tree[2], split)
    if tree[0] == "split" and len(tree) == 4:
        return split_judged(rules, known, goal, tree, split)
    return False


def split_judged(rules, known, goal, tree, split):
    _, row, column, trees = tree
    if not below(row, known.rows) or not below(column, len(known.columns)) or type(trees) is not tuple:
        return False
    values = known.columns[column]
    if values is None or len(trees) != len(values):
        return False
    if split is not None:
        split.append((row, column))
    for value, part in zip(values, trees):
        if not tree_judged(rules, known.and_also(((row, column), value)), goal, part, split):
            return False
    return True


def war_judged(columns, rules, tree):
    return tree_judged(rules, Known(columns, 1), lambda known: False, tree)


def rule_tree_judged(columns, rules, rule, tree, split=None):
    return tree_judged(rules, case_of(columns, rule[0], rows_of(rule)), goal_of(rule), tree, split)


def closed_cells(columns, rule):
    return tuple([(row, column) for row in range(rows_of(rule))
                  for column in range(len(columns)) if columns[column] is not None])


def subsets(cells):
    """All ascending tuples of some of the cells."""
    found = [()]
    for cell in cells:
        found += [some + (cell,) for some in found]
    return sorted(found)


def right_stand(columns, rows, value):
    if type(value) is not tuple or len(value) != 2 or type(value[0]) is not tuple or type(value[1]) is not tuple:
        return False
    known, equal = value
    if len(known) != rows or not all(type(row) is tuple and len(row) == len(columns) for row in known):
        return False
    if not all(below(column, len(columns)) for column in equal) or list(equal) != sorted(set(equal)):
        return False
    return rows == 2 or equal == ()


def stand_judged(columns, rules, rule, cells, value):
    """Whether the value is a stand that is stuck for the cells: the properties in their order."""
    rows = rows_of(rule)
    if not right_stand(columns, rows, value):
        return False
    known, equal = value
    held = [(row, column) for row in range(rows) for column in range(len(columns)) if known[row][column] is not None]
    if not all(in_column(columns[column], known[row][column]) for row, column in held):
        return False
    if not all(known[0][column] == known[1][column] for column in equal):
        return False
    facts = [((row, column), known[row][column]) for row, column in held]
    facts += [((0, column), (1, column)) for column in equal]
    case = Known(columns, rows, facts)
    for fact in case_of(columns, rule[0], rows).facts:
        if not (case.equal(*fact) if type(fact[1]) is tuple else case.has(*fact)):
            return False
    if not all(case.values(cell) for cell in cells):
        return False
    return moves_are_old(rules, case) and not goal_of(rule)(case)


def moves_are_old(rules, case):
    for k, (_, column, want) in enumerate(rules):
        for row in range(case.rows):
            if step_fits(rules, case, k, row) and not case.has((row, column), want):
                return False
        if join_fits(rules, case, k) and not case.equal((0, column), (1, column)):
            return False
    return True


def stands_over(columns, rules, rule):
    """All stands with values that the rules name, for the case of the rule."""
    rows = rows_of(rule)
    width = len(columns)
    values = [(None,) + tuple(values_of(columns, column, rules + (rule,))) for column in range(width)]
    for row in product(*(values * rows)):
        known = tuple([row[k * width:(k + 1) * width] for k in range(rows)])
        for equal in subsets(tuple(range(width))) if rows == 2 else [()]:
            yield (known, equal)


def settled_by_tables(columns, rules, given):
    """What a given settles the columns to, by going through all tables of one and of two rows."""
    named = rules + ((given, 0, None),)
    rows = [row for (row,) in tables_of(columns, named, 1) if row_matches(given, row)]
    if not rows:
        return ("never",) * len(columns)
    pairs = []
    for one, other in tables_of(columns, named, 2):
        if row_matches(given, one) and row_matches(given, other):
            if all(one[column] == other[column] for column, _ in given):
                pairs.append((one, other))
    told = []
    for column in range(len(columns)):
        if len({row[column] for row in rows}) == 1:
            told.append(rows[0][column])
        elif all(one[column] == other[column] for one, other in pairs):
            told.append("same")
        else:
            told.append("free")
    return tuple(told)
