"""Tables: tuples of rows, strings of ticks and blanks."""

from ticklay.checks import are_lines
from ticklay.errors import InvalidLines, InvalidTable

MOST = 8
TICK = "x"
BLANK = "."


def is_row(thing):
    """Return whether any object is a row that a table may have."""
    if not isinstance(thing, str) or not 1 <= len(thing) <= MOST:
        return False
    return all([sign in (TICK, BLANK) for sign in thing])


def is_table(thing):
    """Return whether any object is a table."""
    if not isinstance(thing, tuple) or not 1 <= len(thing) <= MOST:
        return False
    if not all([is_row(row) for row in thing]):
        return False
    return all([len(row) == len(thing[0]) for row in thing])


def check_table(thing):
    """Raise InvalidTable for any object that is no table."""
    if not is_table(thing):
        raise InvalidTable("this is no table")


def signs_at(row, places):
    """Return the signs of a row at some places, in the order of the places."""
    return "".join([row[place] for place in places])


def had(table, row, columns):
    """Return the list of those of some columns that a row has, in their order."""
    return [column for column in columns if table[row][column] == TICK]


def rows_with(table, rows, column):
    """Return the list of those of some rows that have a column, in their order."""
    return [row for row in rows if table[row][column] == TICK]


def places_of(table, sign):
    """Return the ascending list of all places with a sign."""
    columns = range(len(table[0]))
    return [(row, column) for row in range(len(table)) for column in columns if table[row][column] == sign]


def turned(table):
    """Return the table whose rows are the columns of a table."""
    check_table(table)
    return tuple(["".join(signs) for signs in zip(*table)])


def part(table, rows, columns):
    """Return the table of some rows and columns, in their orders."""
    check_table(table)
    if not are_lines(rows, len(table)) or not are_lines(columns, len(table[0])):
        raise InvalidLines("these are no lines of the table")
    return tuple([signs_at(table[row], columns) for row in rows])


def ticks(table):
    """Return the ascending list of all places with a tick."""
    check_table(table)
    return places_of(table, TICK)
