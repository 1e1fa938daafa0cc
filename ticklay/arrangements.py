"""Squares, and arrangements: orders of a table without a square."""

from ticklay.checks import is_integer, is_order
from ticklay.lexical import lexical
from ticklay.tables import BLANK, TICK, check_table, part


def squares(table):
    """Return the ascending list of all squares of a table as it stands."""
    check_table(table)
    height = len(table)
    width = len(table[0])
    return [
        (row, other_row, column, other_column)
        for row in range(height)
        for other_row in range(row + 1, height)
        for column in range(width)
        for other_column in range(column + 1, width)
        if makes_square(table[row], table[other_row], column, other_column)
    ]


def makes_square(row, other_row, column, other_column):
    """Return whether two rows, as they are written, have a square in two columns."""
    if row[column] == BLANK or row[other_column] == BLANK:
        return False
    return other_row[column] == TICK and other_row[other_column] == BLANK


def is_square(table, thing):
    """Return whether any object is a square of a table as it stands."""
    # True and False are equal to indexes, but they are none.
    if not isinstance(thing, tuple) or not all([is_integer(item) for item in thing]):
        return False
    return thing in squares(table)


def is_arrangement(table, thing):
    """Return whether any object is an arrangement of a table."""
    check_table(table)
    if not is_order(table, thing):
        return False
    return squares(part(table, thing[0], thing[1])) == []


def arrangement(table):
    """Return any arrangement of a table, or None if there is none."""
    check_table(table)
    return find_arrangement(table)


def find_arrangement(table):
    """Return any arrangement of a table of which all is known to be right, or None if there is none."""
    order = lexical(table)
    # A lexical order of a table without a ring has no square, so no other one need be tried.
    if is_arrangement(table, order):
        return order
    return None
