"""Shelves and marks: what desks of all kinds keep over calls."""

from whererules.columns import is_number, is_value_of, with_item
from whererules.errors import Full, InvalidMark, InvalidNumber, InvalidValue
from whererules.names import place_of

MOST_MARKS = 6


class Shelf:
    """Things in their order, each with a name: an integer, one more than that of any thing before it."""

    # The things and their names are tuples, so that to keep them is to keep what is there now.

    def __init__(self):
        self.things = ()
        self.labels = ()
        self._coming = 0

    def add_last(self, thing):
        """Adds a thing at the end, and returns its name."""
        name = self._coming
        self.things = self.things + (thing,)
        self.labels = self.labels + (name,)
        self._coming = name + 1
        return name

    def take_away(self, name):
        """Removes the thing with this name. Raises InvalidNumber if there is none."""
        place = place_of(self.labels, name)
        self.things = self.things[:place] + self.things[place + 1:]
        self.labels = self.labels[:place] + self.labels[place + 1:]

    def change_row(self, columns, name, column, value):
        """Changes a value of the row with this name. Raises the error of the first wrong argument."""
        place = place_of(self.labels, name)
        check_column(columns, column)
        if not is_value_of(columns[column], value):
            raise InvalidValue("this is no value of the column")
        self.things = with_item(self.things, place, with_item(self.things[place], column, value))

    def kept(self):
        """What is there now, but for the name that comes next."""
        return self.things, self.labels

    def restore(self, kept):
        """Restores what was kept."""
        self.things, self.labels = kept


class Marks:
    """What was kept at each mark."""

    def __init__(self):
        self._kept = ()

    def make(self, kept):
        """Makes a mark, and returns its number. Raises Full if there are as many as may be."""
        if len(self._kept) == MOST_MARKS:
            raise Full(MOST_MARKS)
        self._kept = self._kept + (kept,)
        return len(self._kept) - 1

    def go_back(self, number):
        """Removes all marks behind this one, and returns what was kept at it. Raises InvalidMark if there is none."""
        if not is_number(number, len(self._kept)):
            raise InvalidMark(number)
        self._kept = self._kept[:number + 1]
        return self._kept[number]


def check_column(columns, column):
    """Raises InvalidNumber if the argument is no number of a column."""
    if not is_number(column, len(columns)):
        raise InvalidNumber("there is no column with this number")


def check_paper(papers, number):
    """Raises InvalidNumber if the argument is no number of a paper."""
    if not is_number(number, len(papers)):
        raise InvalidNumber("there is no paper with this number")
