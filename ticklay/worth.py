"""What a column is worth, and the columns of the choices that cost least."""

from ticklay.changes import with_item
from ticklay.checks import is_index
from ticklay.choices import all_choices, check_amounts, cost_of
from ticklay.errors import InvalidIndex


def check_column(table, prices, fines, column):
    """Raise an error for any objects that are no table, no prices or no fines of it, or no index of a column."""
    check_amounts(table, prices, fines)
    if not is_index(column, len(prices)):
        raise InvalidIndex("there is no such column")


def worth(table, prices, fines, column):
    """Return the least cost without a column less the least cost with it, its price not counted."""
    check_column(table, prices, fines, column)
    unpriced = with_item(prices, column, 0)
    choices = all_choices(len(prices))
    without = [cost_of(table, unpriced, fines, choice) for choice in choices if column not in choice]
    having = [cost_of(table, unpriced, fines, choice) for choice in choices if column in choice]
    return min(without) - min(having)


def in_each(table, prices, fines):
    """Return the ascending tuple of the columns that are in each choice that costs least."""
    found = cheapest_choices(table, prices, fines)
    return tuple([column for column in range(len(prices)) if all([column in choice for choice in found])])


def in_some(table, prices, fines):
    """Return the ascending tuple of the columns that are in some choice that costs least."""
    found = cheapest_choices(table, prices, fines)
    return tuple([column for column in range(len(prices)) if any([column in choice for choice in found])])


def cheapest_choices(table, prices, fines):
    """Return the list of all choices that cost least."""
    check_amounts(table, prices, fines)
    costs = [(cost_of(table, prices, fines, choice), choice) for choice in all_choices(len(prices))]
    least = min(costs)[0]
    return [choice for told, choice in costs if told == least]
