"""The desk, which keeps a table and rules that are at peace over calls."""

from whererules.breaks import list_breaks
from whererules.columns import MOST_ROWS, check_columns, check_row, is_number, is_value_of, with_item
from whererules.errors import AtWar, Full, InvalidMark, InvalidNumber, InvalidValue
from whererules.following import against, tree
from whererules.names import named_break, named_tree, names_in_tree, place_of
from whererules.peace import war
from whererules.rules import MOST_RULES, check_rule

MOST_PAPERS = 8
MOST_MARKS = 6


class Desk:
    """Columns, a table and rules that are at peace, with names for the rows and the rules."""

    # All that is kept are tuples, so that a mark is no more than what is there when it is made.

    def __init__(self, columns):
        check_columns(columns)
        self._columns = columns
        self._table = ()
        self._row_names = ()
        self._next_row = 0
        self._rules = ()
        self._rule_names = ()
        self._next_rule = 0
        self._seen = ()
        self._papers = ()
        self._marks = ()

    @property
    def table(self):
        """The tuple of the rows."""
        return self._table

    @property
    def rules(self):
        """The tuple of the rules."""
        return self._rules

    @property
    def row_names(self):
        """The tuple of the names of the rows."""
        return self._row_names

    @property
    def rule_names(self):
        """The tuple of the names of the rules."""
        return self._rule_names

    def put(self, row):
        """Adds a row at the end, and returns its name."""
        check_row(self._columns, row)
        if len(self._table) == MOST_ROWS:
            raise Full(MOST_ROWS)
        name = self._next_row
        self._table = self._table + (row,)
        self._row_names = self._row_names + (name,)
        self._next_row = name + 1
        return name

    def take(self, name):
        """Removes the row with this name."""
        place = place_of(self._row_names, name)
        self._table = self._table[:place] + self._table[place + 1:]
        self._row_names = self._row_names[:place] + self._row_names[place + 1:]

    def change(self, name, column, value):
        """Changes a value of the row with this name."""
        place = place_of(self._row_names, name)
        if not is_number(column, len(self._columns)):
            raise InvalidNumber("there is no column with this number")
        if not is_value_of(self._columns[column], value):
            raise InvalidValue("this is no value of the column")
        row = with_item(self._table[place], column, value)
        self._table = with_item(self._table, place, row)

    def add_rule(self, rule):
        """Adds a rule at the end, and returns its name."""
        check_rule(self._columns, rule)
        if len(self._rules) == MOST_RULES:
            raise Full(MOST_RULES)
        rules = self._rules + (rule,)
        found = war(self._columns, rules)
        if found is not None:
            raise AtWar(found)
        name = self._next_rule
        self._rules = rules
        self._rule_names = self._rule_names + (name,)
        self._next_rule = name + 1
        return name

    def drop_rule(self, name):
        """Removes the rule with this name."""
        place = place_of(self._rule_names, name)
        self._rules = self._rules[:place] + self._rules[place + 1:]
        self._rule_names = self._rule_names[:place] + self._rule_names[place + 1:]

    def breaks(self):
        """The ascending list of the breaks of the rules in the table, with names."""
        # Names ascend as numbers do: what is added stands at the end, and has a greater name than all before.
        return [named_break(self._rule_names, self._row_names, told) for told in list_breaks(self._rules, self._table)]

    def news(self):
        """The ascending lists of the breaks that have come and gone since they were last asked for."""
        seen, found = self._seen, self.breaks()
        self._seen = tuple(found)
        come = [told for told in found if told not in seen]
        gone = [told for told in seen if told not in found]
        return come, gone

    def ask(self, rule):
        """Asks whether the rule follows, and returns the number of the paper with the answer."""
        check_rule(self._columns, rule)
        if len(self._papers) == MOST_PAPERS:
            raise Full(MOST_PAPERS)
        shown = tree(self._columns, self._rules, rule)
        if shown is None:
            paper = ("against", against(self._columns, self._rules, rule))
        else:
            paper = ("tree", named_tree(self._rule_names, shown))
        self._papers = self._papers + (paper,)
        return len(self._papers) - 1

    def paper(self, number):
        """The paper with this number."""
        if not is_number(number, len(self._papers)):
            raise InvalidNumber("there is no paper with this number")
        return self._papers[number]

    def stands(self, number):
        """True if the paper with this number is right for the rules that are there now."""
        kind, shown = self.paper(number)
        if kind == "tree":
            return all([name in self._rule_names for name in names_in_tree(shown)])
        return len(list_breaks(self._rules, shown)) == 0

    def mark(self):
        """Makes a mark of what is there now, and returns its number."""
        if len(self._marks) == MOST_MARKS:
            raise Full(MOST_MARKS)
        kept = (self._table, self._row_names, self._rules, self._rule_names, self._seen, self._papers)
        self._marks = self._marks + (kept,)
        return len(self._marks) - 1

    def back(self, number):
        """Restores what was there at a mark, but for the names that come next, and removes later marks."""
        if not is_number(number, len(self._marks)):
            raise InvalidMark(number)
        kept = self._marks[number]
        self._marks = self._marks[:number + 1]
        self._table, self._row_names, self._rules, self._rule_names, self._seen, self._papers = kept
