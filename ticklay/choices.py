"""Choices of columns and their costs, weights of rows, and papers."""

from itertools import combinations

from ticklay.checks import are_amounts, are_ascending, is_integer_to
from ticklay.errors import InvalidColumns, InvalidFines, InvalidPrices
from ticklay.tables import check_table, had, rows_with


def check_amounts(table, prices, fines):
    """Raise an error for any objects that are no table, no prices or no fines of it."""
    check_table(table)
    if not are_amounts(prices, len(table[0])):
        raise InvalidPrices("these are no prices of the table")
    if not are_amounts(fines, len(table)):
        raise InvalidFines("these are no fines of the table")


def cost(table, prices, fines, choice):
    """Return the cost of a choice."""
    check_amounts(table, prices, fines)
    if not are_ascending(choice, len(prices)):
        raise InvalidColumns("this is no choice")
    return cost_of(table, prices, fines, choice)


def cost_of(table, prices, fines, choice):
    """Return the cost of a choice of which all is known to be right."""
    paid = [prices[column] for column in choice]
    fined = [fines[row] for row in range(len(table)) if had(table, row, choice) == []]
    return sum(paid) + sum(fined)


def all_choices(count):
    """Return the list of all ascending tuples of different indexes of count things."""
    return [choice for many in range(count + 1) for choice in combinations(range(count), many)]


def are_weights(table, prices, fines, thing):
    """Return whether any object is weights of a table."""
    check_amounts(table, prices, fines)
    return fit_as_weights(table, prices, fines, thing)


def fit_as_weights(table, prices, fines, thing):
    """Return whether any object is weights, all else being known to be right; prices may be above 999."""
    if not isinstance(thing, tuple) or len(thing) != len(table):
        return False
    if not all([is_integer_to(thing[row], fines[row]) for row in range(len(table))]):
        return False
    return all([weight_on(table, thing, column) <= prices[column] for column in range(len(prices))])


def weight_on(table, weights, column):
    """Return what the weights of the rows that have a column add up to."""
    return sum([weights[row] for row in rows_with(table, tuple(range(len(table))), column)])


def is_paper(table, prices, fines, thing):
    """Return whether any object is a paper of a table."""
    check_amounts(table, prices, fines)
    if not isinstance(thing, tuple) or len(thing) != 2:
        return False
    choice, weights = thing
    if not are_ascending(choice, len(prices)) or not fit_as_weights(table, prices, fines, weights):
        return False
    return cost_of(table, prices, fines, choice) == sum(weights)
