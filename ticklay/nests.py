"""Nests: columns whose rows lie one within the other."""

from ticklay.checks import are_ascending
from ticklay.errors import InvalidColumns
from ticklay.tables import TICK, check_table, had


def nests(table, columns):
    """Return the ascending list of all nests among some columns of a table."""
    check_table(table)
    if not are_ascending(columns, len(table[0])):
        raise InvalidColumns("this is no ascending tuple of different columns")
    return [column for column in columns if is_nest(table, column, columns)]


def is_nest(table, column, columns):
    """Return whether a column is a nest among some columns."""
    lots = [had(table, row, columns) for row in range(len(table)) if table[row][column] == TICK]
    # With those that have fewer columns ahead, it is enough to compare neighbours.
    lots = sorted(lots, key=len)
    return all([lies_within(lots[at - 1], lots[at]) for at in range(1, len(lots))])


def lies_within(few, many):
    """Return whether all columns of one list stand in the other one, too."""
    return all([column in many for column in few])


def taken_away(table):
    """Return the list of columns that are taken away, each time the least nest."""
    check_table(table)
    away = []
    left = list(range(len(table[0])))
    found = nests(table, tuple(left))
    while found:
        away.append(found[0])
        left.remove(found[0])
        found = nests(table, tuple(left))
    return away


def core(table):
    """Return the ascending tuple of the columns that are not taken away."""
    away = taken_away(table)
    return tuple([column for column in range(len(table[0])) if column not in away])
