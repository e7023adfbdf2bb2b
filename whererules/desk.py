"""The desk, which keeps a table and rules that are at peace over calls."""

from whererules.breaks import list_breaks
from whererules.columns import MOST_ROWS, check_columns, check_row
from whererules.errors import AtWar, Full
from whererules.following import against, tree
from whererules.names import named_break, named_tree, names_in_tree
from whererules.peace import war
from whererules.rules import MOST_RULES, check_rule
from whererules.shelves import Marks, Shelf, check_paper

MOST_PAPERS = 8


class Desk:
    """Columns, a table and rules that are at peace, with names for the rows and the rules."""

    def __init__(self, columns):
        check_columns(columns)
        self._columns = columns
        self._rows = Shelf()
        self._ruled = Shelf()
        self._seen = ()
        self._papers = ()
        self._marks = Marks()

    @property
    def table(self):
        """The tuple of the rows."""
        return self._rows.things

    @property
    def rules(self):
        """The tuple of the rules."""
        return self._ruled.things

    @property
    def row_names(self):
        """The tuple of the names of the rows."""
        return self._rows.labels

    @property
    def rule_names(self):
        """The tuple of the names of the rules."""
        return self._ruled.labels

    def put(self, row):
        """Adds a row at the end, and returns its name."""
        check_row(self._columns, row)
        if len(self.table) == MOST_ROWS:
            raise Full(MOST_ROWS)
        return self._rows.add_last(row)

    def take(self, name):
        """Removes the row with this name."""
        self._rows.take_away(name)

    def change(self, name, column, value):
        """Changes a value of the row with this name."""
        self._rows.change_row(self._columns, name, column, value)

    def add_rule(self, rule):
        """Adds a rule at the end, and returns its name."""
        check_rule(self._columns, rule)
        if len(self.rules) == MOST_RULES:
            raise Full(MOST_RULES)
        found = war(self._columns, self.rules + (rule,))
        if found is not None:
            raise AtWar(found)
        return self._ruled.add_last(rule)

    def drop_rule(self, name):
        """Removes the rule with this name."""
        self._ruled.take_away(name)

    def breaks(self):
        """The ascending list of the breaks of the rules in the table, with names."""
        # Names ascend as numbers do: what is added stands at the end, and has a greater name than all before.
        return [named_break(self.rule_names, self.row_names, told) for told in list_breaks(self.rules, self.table)]

    def news(self):
        """The ascending lists of the breaks that have come and gone since they were last asked for."""
        seen, found = self._seen, self.breaks()
        self._seen = tuple(found)
        come = [told for told in found if told not in seen]
        gone = [told for told in seen if told not in found]
        return come, gone

    def ask(self, rule):
        """Asks whether the rule follows, and returns the number of the paper with the answer."""
        check_rule(self._columns, rule)
        if len(self._papers) == MOST_PAPERS:
            raise Full(MOST_PAPERS)
        shown = tree(self._columns, self.rules, rule)
        if shown is None:
            paper = ("against", against(self._columns, self.rules, rule))
        else:
            paper = ("tree", named_tree(self.rule_names, shown))
        self._papers = self._papers + (paper,)
        return len(self._papers) - 1

    def paper(self, number):
        """The paper with this number."""
        check_paper(self._papers, number)
        return self._papers[number]

    def stands(self, number):
        """True if the paper with this number is right for the rules that are there now."""
        kind, shown = self.paper(number)
        if kind == "tree":
            return all([name in self.rule_names for name in names_in_tree(shown)])
        return len(list_breaks(self.rules, shown)) == 0

    def mark(self):
        """Makes a mark of what is there now, and returns its number."""
        return self._marks.make((self._rows.kept(), self._ruled.kept(), self._seen, self._papers))

    def back(self, number):
        """Restores what was there at a mark, but for the names that come next, and removes later marks."""
        rows, ruled, self._seen, self._papers = self._marks.go_back(number)
        self._rows.restore(rows)
        self._ruled.restore(ruled)
