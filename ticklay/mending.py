"""The fewest ticks to strike, or to put, until a table has no ring."""

from itertools import combinations

from ticklay.changes import with_sign
from ticklay.rings import find_ring
from ticklay.tables import BLANK, TICK, check_table, places_of


def fewest_strikes(table):
    """Return any ascending list of ticks, as few as there can be, without which there is no ring."""
    check_table(table)
    return fewest_changes(table, TICK, BLANK)


def fewest_put(table):
    """Return any ascending list of blanks, as few as there can be, with ticks at which there is no ring."""
    check_table(table)
    return fewest_changes(table, BLANK, TICK)


def fewest_changes(table, old, new):
    """Return any of the least lists of places with an old sign such that with new ones there is no ring."""
    places = places_of(table, old)
    for many in range(len(places)):
        for lot in combinations(places, many):
            if find_ring(with_signs(table, lot, new)) is None:
                return list(lot)
    # A table of blanks alone, or of ticks alone, has no ring.
    return places


def with_signs(table, places, sign):
    """Return a table with the same sign at some places."""
    for row, column in places:
        table = with_sign(table, row, column, sign)
    return table
