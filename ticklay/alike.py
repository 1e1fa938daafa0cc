"""Tables that are alike: the second one is the first one in some order."""

from itertools import permutations

from ticklay.checks import is_order
from ticklay.tables import check_table, part, signs_at, turned


def match_of(table, other):
    """Return any order of a table in which it is the other one, or None if there is none."""
    check_table(table)
    check_table(other)
    if len(table) != len(other) or len(table[0]) != len(other[0]):
        return None
    across = turned(table)
    other_across = turned(other)
    for rows in permutations(range(len(table))):
        columns = matching_columns(across, other_across, rows)
        if columns is not None:
            return rows, columns
    return None


def matching_columns(across, other_across, rows):
    """Return the columns in the order that makes a table, its rows in an order, the other one.

    Both tables are given turned. None is returned if there is no such order.
    """
    columns = []
    left = list(range(len(across)))
    for signs in other_across:
        # Columns with equal signs stand for one another, so the first one will do.
        equal = [column for column in left if signs_at(across[column], rows) == signs]
        if equal == []:
            return None
        columns.append(equal[0])
        left.remove(equal[0])
    return tuple(columns)


def is_match(table, other, thing):
    """Return whether any object is an order of a table in which it is the other one."""
    check_table(table)
    check_table(other)
    if not is_order(table, thing):
        return False
    return part(table, thing[0], thing[1]) == other


def are_alike(table, other):
    """Return whether the second table is the first one in some order."""
    return match_of(table, other) is not None
