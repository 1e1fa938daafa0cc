"""Tables with one sign changed, and tuples with one item changed."""

from ticklay.checks import is_index
from ticklay.errors import InvalidIndex, KnownTick, UnknownTick
from ticklay.tables import BLANK, TICK


def with_item(items, at, item):
    """Return a tuple with another item at an index."""
    return items[:at] + (item,) + items[at + 1:]


def with_sign(table, row, column, sign):
    """Return a table with another sign at a place."""
    signs = table[row]
    return with_item(table, row, signs[:column] + sign + signs[column + 1:])


def check_place(table, row, column):
    """Raise InvalidIndex for any objects that are no indexes of a row and a column of a table."""
    if not is_index(row, len(table)) or not is_index(column, len(table[0])):
        raise InvalidIndex("there is no such place")


def with_tick_put(table, row, column):
    """Return a table with a tick where a blank was."""
    check_place(table, row, column)
    if table[row][column] == TICK:
        raise KnownTick("a tick stands there already")
    return with_sign(table, row, column, TICK)


def with_tick_struck(table, row, column):
    """Return a table with a blank where a tick was."""
    check_place(table, row, column)
    if table[row][column] == BLANK:
        raise UnknownTick("no tick stands there")
    return with_sign(table, row, column, BLANK)
