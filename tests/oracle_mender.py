"""What DOC.md says of a mending desk, written once more, over dicts that are copied for each mark."""

import copy
from functools import lru_cache

import oracle
from oracle_drafts import blames_by, differing, draft_of, is_war, right_cell, right_some, standing
from oracle_mends import changes, cost_of, fates_by, is_mend, lowest, price_tree_judged, right_costs
from whererules.errors import Full, InvalidMark, InvalidNumber, InvalidRow, InvalidRule, InvalidValue

STANDING = lru_cache(maxsize=4000)(standing)


class PlainMender:
    """A mending desk that keeps all as plainly as can be. What is any of several is not made, but judged."""

    def __init__(self, columns, costs):
        self.columns = columns
        self.now = {"rows": {}, "rules": {}, "costs": costs, "pins": [], "seen": {}, "papers": []}
        self.marks = []
        self.row_count = 0
        self.rule_count = 0

    def table(self):
        return tuple(self.now["rows"].values())

    def rules(self):
        return tuple(self.now["rules"].values())

    def pins(self):
        return tuple(sorted(self.now["pins"]))

    def costs(self):
        return self.now["costs"]

    def pinned(self):
        """The pinned cells, with numbers of rows."""
        names = list(self.now["rows"])
        return tuple(sorted([(names.index(name), column) for name, column in self.now["pins"]]))

    def question(self):
        return self.columns, self.rules(), self.table()

    def most_rows(self):
        return max([rows for rows in (1, 2, 3) if rows * len(self.columns) <= 9])

    def put(self, row):
        if not oracle.right_row(self.columns, row):
            raise InvalidRow("")
        if len(self.now["rows"]) == self.most_rows():
            raise Full(self.most_rows())
        self.now["rows"][self.row_count] = row
        self.row_count += 1
        return self.row_count - 1

    def check_name(self, kind, name):
        if not oracle.integer(name) or name not in self.now[kind]:
            raise InvalidNumber("")

    def check_column(self, column):
        if not oracle.below(column, len(self.columns)):
            raise InvalidNumber("")

    def take(self, name):
        self.check_name("rows", name)
        del self.now["rows"][name]
        self.now["pins"] = [pin for pin in self.now["pins"] if pin[0] != name]

    def change(self, name, column, value):
        self.check_name("rows", name)
        self.check_column(column)
        if not oracle.in_column(self.columns[column], value):
            raise InvalidValue("")
        row = list(self.now["rows"][name])
        row[column] = value
        self.now["rows"][name] = tuple(row)

    def add_rule(self, rule):
        if not oracle.right_rule(self.columns, rule):
            raise InvalidRule("")
        if len(self.now["rules"]) == 8:
            raise Full(8)
        self.now["rules"][self.rule_count] = rule
        self.rule_count += 1
        return self.rule_count - 1

    def drop_rule(self, name):
        self.check_name("rules", name)
        del self.now["rules"][name]

    def pin(self, name, column):
        self.check_name("rows", name)
        self.check_column(column)
        if (name, column) not in self.now["pins"]:
            self.now["pins"].append((name, column))

    def unpin(self, name, column):
        self.check_name("rows", name)
        self.check_column(column)
        if (name, column) in self.now["pins"]:
            self.now["pins"].remove((name, column))

    def set_cost(self, column, cost):
        self.check_column(column)
        if not right_costs((None,), (cost,)):
            raise InvalidValue("")
        self.now["costs"] = self.costs()[:column] + (cost,) + self.costs()[column + 1:]

    def price(self):
        return lowest(self.table(), STANDING(*self.question()), self.costs(), self.pinned())

    def mend_judged(self, table):
        """Whether this is what mend may return."""
        least = self.price()
        if least is None or table is None:
            return least is None and table is None
        return is_mend(*self.question(), self.pinned(), table) and self.cost(table) == least

    def cost(self, table):
        return cost_of(self.costs(), differing(self.table(), table))

    def record_judged(self, record):
        """Whether this is what record may return."""
        columns, rules, small = self.question()
        if self.price() is None:
            if record[:-1] != ("held", columns, rules, small, self.pinned()):
                return False
            return is_war(columns, rules, draft_of(small, self.pinned()), record[-1], brisk=True)
        if record[:-2] != ("mend", columns, rules, small, self.costs(), self.pinned()):
            return False
        table, tree = record[-2:]
        return self.mend_judged(table) and self.tree_judged(self.price(), tree, True)

    def tree_judged(self, number, tree, strict):
        blamed = blames_by(STANDING(*self.question())) if strict else None
        return price_tree_judged(self.question(), self.costs(), self.pinned(), (), number, tree, blamed)

    def fates(self):
        found = fates_by(self.table(), STANDING(*self.question()), self.costs(), self.pinned())
        if found is None:
            return {}
        return {(name, j): fate for name, row in zip(self.now["rows"], found) for j, fate in enumerate(row)}

    def news(self):
        before, self.now["seen"] = self.now["seen"], self.fates()
        now = self.now["seen"]
        cells = sorted(set(before) | set(now))
        return [cell + (before.get(cell), now.get(cell)) for cell in cells if before.get(cell) != now.get(cell)]

    def ask(self):
        if len(self.now["papers"]) == 8:
            raise Full(8)
        self.now["papers"].append(None)
        return len(self.now["papers"]) - 1

    def keep_paper(self, paper):
        """Keeps the paper that was made; returns whether it is what may have been made."""
        self.now["papers"][-1] = paper
        if self.price() is None:
            kind, cells, war = paper
            shown = self.war_in_numbers(war)
            draft = draft_of(self.table(), self.cells_in_numbers(cells))
            return kind == "held" and self.truths(paper) == (True, True) and is_war(*self.question()[:2], draft, shown, brisk=True)
        kind, number, entries, tree = paper
        changed = [entry[:2] for entry in entries]
        return (kind == "price" and number == self.price() and self.truths(paper) == (True, True)
                and changed == sorted(set(changed)) and self.mend_judged(self.table_with(entries))
                and len(changed) == len(differing(self.table(), self.table_with(entries)))
                and self.tree_judged(number, self.tree_in_numbers(tree), True))

    def paper(self, number):
        if not oracle.below(number, len(self.now["papers"])):
            raise InvalidNumber("")
        return self.now["papers"][number]

    def row_number(self, name):
        """The number of the row; None if it is not there, which is no number in any tree."""
        names = list(self.now["rows"])
        return names.index(name) if name in names else None

    def rule_number(self, name):
        names = list(self.now["rules"])
        return names.index(name) if name in names else None

    def cells_in_numbers(self, cells):
        return tuple([(self.row_number(name), column) for name, column in cells])

    def war_in_numbers(self, war):
        if war[0] == "step":
            return ("step", self.rule_number(war[1]), self.row_number(war[2]), self.war_in_numbers(war[3]))
        if war[0] == "join":
            rows = (self.row_number(war[2]), self.row_number(war[3]))
            return ("join", self.rule_number(war[1])) + rows + (self.war_in_numbers(war[4]),)
        if war[0] == "split":
            parts = tuple([self.war_in_numbers(part) for part in war[3]])
            return ("split", self.row_number(war[1]), war[2], parts)
        return war

    def tree_in_numbers(self, tree):
        if tree in (None, ()):
            return tree
        cells, war, trees = tree
        parts = tuple([self.tree_in_numbers(part) for part in trees])
        return (self.cells_in_numbers(cells), self.war_in_numbers(war), parts)

    def table_with(self, entries):
        """The table with the values of the entries; None if a row that they name is not there."""
        rows = {name: list(row) for name, row in self.now["rows"].items()}
        for name, column, value in entries:
            if name not in rows:
                return None
            rows[name][column] = value
        return tuple([tuple(row) for row in rows.values()])

    def stands(self, number):
        return self.truths(self.paper(number))

    def truths(self, paper):
        columns, rules, small = self.question()
        if paper[0] == "held":
            cells = self.cells_in_numbers(paper[1])
            there = all(right_cell(small, cell) for cell in cells) and right_some(small, cells)
            if not there or not set(cells) <= set(self.pinned()):
                return (True, False)
            return (True, is_war(columns, rules, draft_of(small, cells), self.war_in_numbers(paper[2])))
        _, most, entries, tree = paper
        table = self.table_with(entries)
        mended = table is not None and is_mend(columns, rules, small, self.pinned(), table) and self.cost(table) <= most
        return (mended, self.tree_judged(most, self.tree_in_numbers(tree), False))

    def mark(self):
        if len(self.marks) == 6:
            raise Full(6)
        self.marks.append(copy.deepcopy(self.now))
        return len(self.marks) - 1

    def back(self, number):
        if not oracle.below(number, len(self.marks)):
            raise InvalidMark(number)
        self.now = copy.deepcopy(self.marks[number])
        del self.marks[number + 1:]
