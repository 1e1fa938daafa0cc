"""Rings: rows and columns, three or more of each, that run round and end where they began."""

from ticklay.checks import are_crossed
from ticklay.tables import check_table, had, rows_with

LEAST = 3


def is_ring(table, thing):
    """Return whether any object is a ring of a table."""
    check_table(table)
    if not are_crossed(thing, len(table), len(table[0])):
        return False
    rows, columns = thing
    if len(rows) != len(columns) or len(rows) < LEAST:
        return False
    return all([runs_on(table, rows[at], columns, at) for at in range(len(rows))])


def runs_on(table, row, columns, at):
    """Return whether a row has, of some columns, just the one at a place and the next one."""
    both = [columns[at], columns[(at + 1) % len(columns)]]
    return sorted(had(table, row, columns)) == sorted(both)


def ring(table):
    """Return any ring of a table, or None if there is none."""
    check_table(table)
    return find_ring(table)


def find_ring(table):
    """Return any ring of a table of which all is known to be right, or None if there is none."""
    return first_ring(table, 1)


def odd_ring(table):
    """Return any ring with an odd number of rows, or None if there is none."""
    check_table(table)
    return first_ring(table, 2)


def first_ring(table, step):
    """Return a ring with 3, 3 + step, 3 + 2 * step .. rows, or None if there is none."""
    for column in range(len(table[0])):
        found = ring_from_column(table, (), (column,), step)
        if found is not None:
            return found
    return None


def ring_from_column(table, rows, columns, step):
    """Return a ring that begins with a road, or None if there is none.

    A road goes from its first column by its first row to its second column, and so on, and
    ends with a column; each of its rows has, of its columns, just the two beside it.
    """
    for row in range(len(table)):
        seen = had(table, row, columns)
        if seen == [columns[0], columns[-1]] and may_close(columns, step):
            return rows + (row,), columns
        if seen == [columns[-1]]:
            found = ring_from_row(table, rows + (row,), columns, step)
            if found is not None:
                return found
    return None


def may_close(columns, step):
    """Return whether a ring with just these columns has as many rows as first_ring allows."""
    return len(columns) >= LEAST and (len(columns) - LEAST) % step == 0


def ring_from_row(table, rows, columns, step):
    """Return a ring that begins with a road and one more row, or None if there is none."""
    # Each ring is met from the least of its columns, so none below the first one is needed.
    for column in range(columns[0] + 1, len(table[0])):
        if rows_with(table, rows, column) == [rows[-1]]:
            found = ring_from_column(table, rows, columns + (column,), step)
            if found is not None:
                return found
    return None
