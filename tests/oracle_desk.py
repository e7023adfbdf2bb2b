"""What DOC.md says of a desk, written once more, over dicts that are copied for each mark."""

import copy

import oracle
from whererules.errors import AtWar, Full, InvalidMark, InvalidNumber, InvalidRow, InvalidRule, InvalidValue


class Plain:
    """A desk that keeps all as plainly as can be. What is any of several is not made, but judged."""

    def __init__(self, columns):
        self.columns = columns
        self.now = {"rows": {}, "rules": {}, "seen": [], "papers": []}
        self.marks = []
        self.row_count = 0
        self.rule_count = 0

    def table(self):
        return tuple(self.now["rows"].values())

    def rules(self):
        return tuple(self.now["rules"].values())

    def put(self, row):
        if not oracle.right_row(self.columns, row):
            raise InvalidRow("")
        if len(self.now["rows"]) == 8:
            raise Full(8)
        self.now["rows"][self.row_count] = row
        self.row_count += 1
        return self.row_count - 1

    def take(self, name):
        self.check_name("rows", name)
        del self.now["rows"][name]

    def check_name(self, kind, name):
        if not oracle.integer(name) or name not in self.now[kind]:
            raise InvalidNumber("")

    def change(self, name, column, value):
        self.check_name("rows", name)
        if not oracle.below(column, len(self.columns)):
            raise InvalidNumber("")
        if not oracle.in_column(self.columns[column], value):
            raise InvalidValue("")
        row = list(self.now["rows"][name])
        row[column] = value
        self.now["rows"][name] = tuple(row)

    def add_rule(self, rule):
        if not oracle.right_rule(self.columns, rule):
            raise InvalidRule("")
        if len(self.now["rules"]) == 8:
            raise Full(8)
        if not oracle.kept_by_a_row(self.columns, self.rules() + (rule,)):
            raise AtWar(None)
        self.now["rules"][self.rule_count] = rule
        self.rule_count += 1
        return self.rule_count - 1

    def drop_rule(self, name):
        self.check_name("rules", name)
        del self.now["rules"][name]

    def breaks(self):
        row_names, rule_names = list(self.now["rows"]), list(self.now["rules"])
        found = []
        for k, *rows in oracle.all_breaks(self.rules(), self.table()):
            found.append((rule_names[k],) + tuple([row_names[row] for row in rows]))
        return sorted(found)

    def news(self):
        before, self.now["seen"] = self.now["seen"], self.breaks()
        return sorted(set(self.now["seen"]) - set(before)), sorted(set(before) - set(self.now["seen"]))

    def ask(self, rule):
        if not oracle.right_rule(self.columns, rule):
            raise InvalidRule("")
        if len(self.now["papers"]) == 8:
            raise Full(8)
        self.now["papers"].append(None)
        return len(self.now["papers"]) - 1

    def keep_paper(self, rule, paper):
        """Keeps the paper that was made, with the rule that it is about."""
        self.now["papers"][-1] = (rule, paper)

    def paper(self, number):
        if not oracle.below(number, len(self.now["papers"])):
            raise InvalidNumber("")
        return self.now["papers"][number][1]

    def stands(self, number):
        paper = self.paper(number)
        return paper_stands(self.columns, self.now["rules"], self.now["papers"][number][0], paper)

    def mark(self):
        if len(self.marks) == 6:
            raise Full(6)
        self.marks.append(copy.deepcopy(self.now))
        return len(self.marks) - 1

    def back(self, number):
        if not oracle.below(number, len(self.marks)):
            raise InvalidMark(number)
        self.now = copy.deepcopy(self.marks[number])
        del self.marks[number + 1:]


def with_numbers(names, tree):
    """The tree with numbers in the places of names, and None in that of a name that is not there."""
    if tree[0] in ("step", "join"):
        number = names.index(tree[1]) if tree[1] in names else None
        return (tree[0], number) + tree[2:-1] + (with_numbers(names, tree[-1]),)
    if tree[0] == "split":
        return tree[:3] + (tuple([with_numbers(names, part) for part in tree[3]]),)
    return tree


def paper_stands(columns, rules, rule, paper):
    """Whether the paper about the rule is right for the rules, a dict of them by their names."""
    kind, shown = paper
    if kind == "tree":
        return oracle.rule_tree_judged(columns, tuple(rules.values()), rule, with_numbers(list(rules), shown))
    return oracle.all_hold(tuple(rules.values()), shown) and not oracle.rule_holds(rule, shown)
