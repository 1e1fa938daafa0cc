"""The fewest columns that all rows have, and the most rows apart."""

from ticklay.cheapest import cheapest
from ticklay.choices import all_choices
from ticklay.tables import MOST, TICK, check_table, rows_with


def fewest_columns(table):
    """Return any choice with the fewest columns such that each row has one, or None if there is none."""
    check_table(table)
    if not all([TICK in row for row in table]):
        return None
    # One fine is more than the prices of all columns, so a choice that costs least pays none.
    prices = (1,) * len(table[0])
    fines = (MOST + 1,) * len(table)
    return cheapest(table, prices, fines)[1]


def most_apart(table):
    """Return any ascending tuple of rows, as many as there can be, that are apart."""
    check_table(table)
    return max([rows for rows in all_choices(len(table)) if are_apart(table, rows)], key=len)


def are_apart(table, rows):
    """Return whether no column is had by two of some rows."""
    return all([len(rows_with(table, rows, column)) <= 1 for column in range(len(table[0]))])
