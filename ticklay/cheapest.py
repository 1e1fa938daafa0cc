"""The choices that cost least, the weights with the greatest sum, and whether they meet."""

from ticklay.arrangements import arrangement
from ticklay.choices import all_choices, check_amounts, cost_of
from ticklay.going import go, left_after, most_weight
from ticklay.rings import ring


def cheapest(table, prices, fines):
    """Return a tuple (cost, choice) of any choice that costs least."""
    check_amounts(table, prices, fines)
    return min([(cost_of(table, prices, fines, choice), choice) for choice in all_choices(len(prices))])


def heaviest(table, prices, fines):
    """Return a tuple (sum, weights) of any weights with the greatest sum."""
    check_amounts(table, prices, fines)
    weights = heaviest_weights(table, prices, fines)
    return sum(weights), weights


def heaviest_weights(table, prices, fines):
    """Return any weights with the greatest sum."""
    order = arrangement(table)
    if order is not None:
        return go(table, prices, fines, order)[1]
    # Without a row of a ring that ring is gone, so in the end the go tells what is best for
    # the other rows. The weights of the rows that are left out so are tried one by one.
    row = ring(table)[0][0]
    most = most_weight(table[row], prices, fines[row])
    return max([weights_with(table, prices, fines, row, weight) for weight in range(most + 1)], key=sum)


def weights_with(table, prices, fines, row, weight):
    """Return any weights with the greatest sum of those that give a row this weight."""
    left = left_after(table[row], prices, weight)
    others = heaviest_weights(table[:row] + table[row + 1:], left, fines[:row] + fines[row + 1:])
    return others[:row] + (weight,) + others[row:]


def paper(table, prices, fines):
    """Return any paper of a table, or None if there is none."""
    least, choice = cheapest(table, prices, fines)
    greatest, weights = heaviest(table, prices, fines)
    # No sum of weights is greater than a cost, so if these two differ, no others meet.
    if least != greatest:
        return None
    return choice, weights


def gap(table, prices, fines):
    """Return the least cost less the greatest sum of weights."""
    return cheapest(table, prices, fines)[0] - heaviest(table, prices, fines)[0]
