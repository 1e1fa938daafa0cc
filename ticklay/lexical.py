"""Lexical orders: rows and columns ascend, each read from its end to its beginning."""

from ticklay.checks import is_order
from ticklay.tables import check_table, part, signs_at, turned


def is_lexical(table, thing):
    """Return whether any object is a lexical order of a table."""
    check_table(table)
    if not is_order(table, thing):
        return False
    ordered = part(table, thing[0], thing[1])
    return rows_ascend(ordered) and rows_ascend(turned(ordered))


def rows_ascend(table):
    """Return whether no row, read from its end, is greater than the next one."""
    back = [row[::-1] for row in table]
    return back == sorted(back)


def lexical(table):
    """Return any lexical order of a table."""
    across = turned(table)
    order = None
    rows = tuple(range(len(table)))
    columns = tuple(range(len(across)))
    # This ends: read by its diagonals, from the last sign to the first one, the table in
    # this order becomes greater whenever rows or columns change their places.
    while order != (rows, columns):
        order = (rows, columns)
        rows = sorted_lines(table, rows, columns)
        columns = sorted_lines(across, columns, rows)
    return order


def sorted_lines(table, lines, places):
    """Return lines so that they ascend, each read from the last one of some places on.

    Of equal lines the one with the lesser index stands ahead.
    """
    back = places[::-1]
    # A tick is written with a greater sign than a blank, so the texts compare as lines do.
    told = sorted([(signs_at(table[line], back), line) for line in lines])
    return tuple([line for _, line in told])
