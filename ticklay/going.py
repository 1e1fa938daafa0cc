"""The go: a paper made by an arrangement, row by row and then column by column."""

from ticklay.arrangements import find_arrangement, is_arrangement
from ticklay.choices import check_amounts
from ticklay.errors import InvalidArrangement
from ticklay.tables import TICK, had


def go(table, prices, fines, arrangement):
    """Return the tuple (choice, weights) that is made by an arrangement of a table."""
    check_amounts(table, prices, fines)
    if not is_arrangement(table, arrangement):
        raise InvalidArrangement("this is no arrangement of the table")
    return go_along(table, prices, fines, arrangement)


def find_paper(table, prices, fines):
    """Return any paper, all being known to be right, or None if the table has a ring; prices may be above 999."""
    order = find_arrangement(table)
    if order is None:
        return None
    return go_along(table, prices, fines, order)


def go_along(table, prices, fines, order):
    """Return what an arrangement makes, all being known to be right; prices may be above 999."""
    rows, columns = order
    left = prices
    weights = [0] * len(table)
    for row in rows:
        weights[row] = most_weight(table[row], left, fines[row])
        left = left_after(table[row], left, weights[row])
    return chosen(table, weights, left, columns), tuple(weights)


def most_weight(row, left, fine):
    """Return the least of a fine and of what each column of a row, as it is written, has left."""
    return min([fine] + [left[column] for column in range(len(row)) if row[column] == TICK])


def left_after(row, left, weight):
    """Return what each column has left when a row, as it is written, has got a weight."""
    return tuple([left[at] - weight if row[at] == TICK else left[at] for at in range(len(row))])


def chosen(table, weights, left, columns):
    """Return the choice of full columns, tried from the last one to the first one."""
    choice = []
    for column in columns[::-1]:
        if left[column] == 0 and not meets_choice(table, weights, column, choice):
            choice.append(column)
    return tuple(sorted(choice))


def meets_choice(table, weights, column, choice):
    """Return whether a row with a weight above 0 has a column and one of a choice."""
    heavy = [row for row in range(len(table)) if weights[row] > 0 and table[row][column] == TICK]
    return any([had(table, row, choice) != [] for row in heavy])
