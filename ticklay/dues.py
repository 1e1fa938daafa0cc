"""Worth papers: what shows that a column is worth a number."""

from ticklay.changes import with_item
from ticklay.checks import are_ascending, is_integer
from ticklay.choices import all_choices, cost_of, fit_as_weights
from ticklay.errors import HasRing
from ticklay.going import find_paper
from ticklay.worth import check_column, worth


def worth_paper(table, prices, fines, column):
    """Return any worth paper of a column."""
    number = worth(table, prices, fines, column)
    due = with_item(prices, column, number)
    paper = find_paper(table, due, fines)
    if paper is None:
        raise HasRing("the table has a ring")
    choices = all_choices(len(prices))
    having = cheapest_of(table, due, fines, [choice for choice in choices if column in choice])
    lacking = cheapest_of(table, due, fines, [choice for choice in choices if column not in choice])
    return number, having, lacking, paper[1]


def cheapest_of(table, prices, fines, choices):
    """Return any of some choices that costs least of them."""
    return min([(cost_of(table, prices, fines, choice), choice) for choice in choices])[1]


def is_worth_paper(table, prices, fines, column, thing):
    """Return whether any object is a worth paper of a column."""
    check_column(table, prices, fines, column)
    if not isinstance(thing, tuple) or len(thing) != 4:
        return False
    number, choice, other, weights = thing
    if not is_integer(number) or number < 0:
        return False
    if not are_ascending(choice, len(prices)) or not are_ascending(other, len(prices)):
        return False
    if column not in choice or column in other:
        return False
    due = with_item(prices, column, number)
    if not fit_as_weights(table, due, fines, weights):
        return False
    return cost_of(table, due, fines, choice) == cost_of(table, due, fines, other) == sum(weights)
