"""The mending desk, which keeps a small table, rules, costs and pins over calls."""

from whererules.breaks import list_breaks
from whererules.columns import check_columns, check_row, with_item
from whererules.errors import Full, InvalidValue
from whererules.fates import find_fates
from whererules.names import place_of, places_of, renamed_cells, renamed_price_tree, renamed_war
from whererules.prices import (
    Ground, cheapest_mend, check_costs, cost_of_change, has_right_war, is_cost, lowest_price, price_tree_is_right)
from whererules.records import blame_of_pinned, mend_record
from whererules.rules import MOST_RULES, check_rule
from whererules.shelves import Marks, Shelf, check_column, check_paper
from whererules.smalls import cells_of, changed_cells, mask_of, most_rows

MOST_PAPERS = 8


class Mender:
    """Columns, costs, a small table, rules and pins, with names for the rows and the rules."""

    def __init__(self, columns, costs):
        check_columns(columns)
        check_costs(columns, costs)
        self._columns = columns
        self._costs = costs
        self._rows = Shelf()
        self._ruled = Shelf()
        self._pins = ()
        # The fates of the cells, by their names, as news last saw them. This dict is never changed, only exchanged.
        self._seen = {}
        self._papers = ()
        self._marks = Marks()

    @property
    def table(self):
        """The tuple of the rows."""
        return self._rows.things

    @property
    def rules(self):
        """The tuple of the rules."""
        return self._ruled.things

    @property
    def row_names(self):
        """The tuple of the names of the rows."""
        return self._rows.labels

    @property
    def rule_names(self):
        """The tuple of the names of the rules."""
        return self._ruled.labels

    @property
    def pins(self):
        """The ascending tuple of the pinned cells, with names."""
        return self._pins

    @property
    def costs(self):
        """The costs of the columns."""
        return self._costs

    def put(self, row):
        """Adds a row at the end, and returns its name."""
        check_row(self._columns, row)
        limit = most_rows(self._columns)
        if len(self.table) == limit:
            raise Full(limit)
        return self._rows.add_last(row)

    def take(self, name):
        """Removes the row with this name, and its pins."""
        self._rows.take_away(name)
        self._pins = tuple([pin for pin in self._pins if pin[0] != name])

    def change(self, name, column, value):
        """Changes a value of the row with this name."""
        self._rows.change_row(self._columns, name, column, value)

    def add_rule(self, rule):
        """Adds a rule at the end, and returns its name."""
        check_rule(self._columns, rule)
        if len(self.rules) == MOST_RULES:
            raise Full(MOST_RULES)
        return self._ruled.add_last(rule)

    def drop_rule(self, name):
        """Removes the rule with this name."""
        self._ruled.take_away(name)

    def pin(self, name, column):
        """Pins a cell, pinned before or not."""
        self._check_cell(name, column)
        self._pins = tuple(sorted(set(self._pins + ((name, column),))))

    def unpin(self, name, column):
        """Unpins a cell, pinned before or not."""
        self._check_cell(name, column)
        self._pins = tuple([pin for pin in self._pins if pin != (name, column)])

    def set_cost(self, column, cost):
        """Sets the cost of a column."""
        check_column(self._columns, column)
        if not is_cost(cost):
            raise InvalidValue("this is no cost of a column")
        self._costs = with_item(self._costs, column, cost)

    def price(self):
        """The price, or None."""
        return lowest_price(self._ground(), mask_of(self.table, self._pinned()))

    def mend(self):
        """A cheapest mend, or None."""
        return cheapest_mend(self._ground(), mask_of(self.table, self._pinned()))

    def record(self):
        """A record "mend" of a cheapest mend, or a record "held" of all pinned cells."""
        return mend_record(self._ground(), self._costs, self._pinned())

    def news(self):
        """The ascending list of the tuples (name, column, before, now) of the cells whose fate is another one."""
        before, now = self._seen, self._fates()
        self._seen = now
        told = []
        for cell in sorted(set(list(before) + list(now))):
            if before.get(cell) != now.get(cell):
                told.append(cell + (before.get(cell), now.get(cell)))
        return told

    def ask(self):
        """Asks about the price, and returns the number of the paper with the answer."""
        if len(self._papers) == MOST_PAPERS:
            raise Full(MOST_PAPERS)
        self._papers = self._papers + (self._new_paper(),)
        return len(self._papers) - 1

    def paper(self, number):
        """The paper with this number."""
        check_paper(self._papers, number)
        return self._papers[number]

    def stands(self, number):
        """The two truths of the paper with this number, for what is there now."""
        shown = self.paper(number)
        if shown[0] == "held":
            return True, self._is_held(shown[1], shown[2])
        _, most, entries, tree = shown
        return self._is_mended(most, entries), self._is_proved(most, tree)

    def mark(self):
        """Makes a mark of what is there now, and returns its number."""
        kept = (self._rows.kept(), self._ruled.kept(), self._costs, self._pins, self._seen, self._papers)
        return self._marks.make(kept)

    def back(self, number):
        """Restores what was there at a mark, but for the names that come next, and removes later marks."""
        rows, ruled, self._costs, self._pins, self._seen, self._papers = self._marks.go_back(number)
        self._rows.restore(rows)
        self._ruled.restore(ruled)

    def _check_cell(self, name, column):
        """Raises InvalidNumber if there is no row with this name, or no column with this number."""
        place_of(self.row_names, name)
        check_column(self._columns, column)

    def _ground(self):
        """What is found out about the table and the rules."""
        return Ground(self._columns, self.rules, self.table, self._costs)

    def _pinned(self):
        """The pinned cells, with numbers of rows."""
        return renamed_cells(places_of(self.row_names), self._pins)

    def _fates(self):
        """A dict of the fates of the cells by their names; it is empty if no mend leaves the pinned cells."""
        found = find_fates(self._ground(), mask_of(self.table, self._pinned()))
        told = {}
        if found is not None:
            for name, row in zip(self.row_names, found):
                for column in range(len(row)):
                    told[(name, column)] = row[column]
        return told

    def _new_paper(self):
        """The paper about the price."""
        ground, pinned, rows = self._ground(), self._pinned(), self.row_names
        shown = mend_record(ground, self._costs, pinned)
        if shown[0] == "held":
            cells, war = blame_of_pinned(ground, pinned)
            return ("held", renamed_cells(rows, cells), renamed_war(self.rule_names, rows, war))
        table, tree = shown[6:]
        changed = cells_of(self.table, changed_cells(self.table, table))
        entries = tuple([(rows[i], j, table[i][j]) for i, j in changed])
        most = cost_of_change(self._costs, self.table, table)
        return ("price", most, entries, renamed_price_tree(self.rule_names, rows, tree))

    def _is_mended(self, most, entries):
        """True if the entries make a mend that leaves the pinned cells and costs no more than this."""
        places, table = places_of(self.row_names), self.table
        for name, column, value in entries:
            if name not in places:
                return False
            place = places[name]
            table = with_item(table, place, with_item(table[place], column, value))
        if changed_cells(self.table, table) & mask_of(self.table, self._pinned()) != 0:
            return False
        return len(list_breaks(self.rules, table)) == 0 and cost_of_change(self._costs, self.table, table) <= most

    def _is_proved(self, number, tree):
        """True if the tree, with names, is a price tree of the number."""
        question = (self._columns, self.rules, self.table)
        try:
            shown = renamed_price_tree(places_of(self.rule_names), places_of(self.row_names), tree)
        except KeyError:
            return False
        return price_tree_is_right(question, self._costs, self._pinned(), (), number, shown)

    def _is_held(self, cells, war):
        """True if all the cells are pinned, and the war, with names, is one of just these."""
        question = (self._columns, self.rules, self.table)
        rows = places_of(self.row_names)
        if not all([cell in self._pins for cell in cells]):
            return False
        try:
            shown = renamed_war(places_of(self.rule_names), rows, war)
        except KeyError:
            return False
        return has_right_war(question, (), renamed_cells(rows, cells), shown)
