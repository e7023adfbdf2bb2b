"""Columns, rows and tables."""

from whererules.errors import InvalidColumns, InvalidRow, InvalidTable

MOST_COLUMNS = 4
MOST_CLOSED = 2
MOST_VALUES = 3
MOST_ROWS = 8


def is_integer(value):
    """True if the value is an integer: an int that is not a bool."""
    return isinstance(value, int) and not isinstance(value, bool)


def is_number(value, limit):
    """True if the value is the number of one of so many things: an integer from 0 to limit - 1."""
    return is_integer(value) and 0 <= value < limit


def is_value_of(column, value):
    """True if the value is a value of the column."""
    if not is_integer(value) or value < 0:
        return False
    return column is None or value in column


def is_closed(value):
    """True if the value is an entry of columns for a closed column."""
    if not isinstance(value, tuple) or not 1 <= len(value) <= MOST_VALUES:
        return False
    last = -1
    for one in value:
        if not is_integer(one) or one <= last:
            return False
        last = one
    return True


def is_columns(value):
    """True if the value is columns."""
    if not isinstance(value, tuple) or not 1 <= len(value) <= MOST_COLUMNS:
        return False
    closed = [column for column in value if column is not None]
    for column in closed:
        if not is_closed(column):
            return False
    return len(closed) <= MOST_CLOSED


def is_row(columns, value):
    """True if the value is a row of the columns."""
    check_columns(columns)
    return row_is_right(columns, value)


def is_table(columns, value):
    """True if the value is a table of the columns."""
    check_columns(columns)
    return table_is_right(columns, value)


def row_is_right(columns, value):
    """What is_row tells, for columns that are checked."""
    if not isinstance(value, tuple) or len(value) != len(columns):
        return False
    for column, one in zip(columns, value):
        if not is_value_of(column, one):
            return False
    return True


def table_is_right(columns, value):
    """What is_table tells, for columns that are checked."""
    if not isinstance(value, tuple) or len(value) > MOST_ROWS:
        return False
    for row in value:
        if not row_is_right(columns, row):
            return False
    return True


def with_item(items, place, item):
    """The tuple of items with another item in this place."""
    return items[:place] + (item,) + items[place + 1:]


def check_columns(columns):
    """Raises InvalidColumns if the argument is no columns."""
    if not is_columns(columns):
        raise InvalidColumns("these are no columns")


def check_row(columns, row):
    """Raises InvalidRow if the argument is no row."""
    if not row_is_right(columns, row):
        raise InvalidRow("this is no row of the columns")


def check_table(columns, table):
    """Raises InvalidTable if the argument is no table."""
    if not table_is_right(columns, table):
        raise InvalidTable("this is no table of the columns")
