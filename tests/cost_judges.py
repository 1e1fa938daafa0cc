"""The words of points 6 and 14 to 17, read one by one, to judge the program by."""

from itertools import combinations, product

from tests.judges import are_different_indexes, has


def judge_amounts(thing, count):
    """Whether a thing is prices of so many columns, or fines of so many rows."""
    if type(thing) is not tuple or len(thing) != count:
        return False
    return all(type(amount) is int and amount in range(1000) for amount in thing)


def judge_choice(table, thing):
    return are_different_indexes(thing, len(table[0])) and list(thing) == sorted(thing)


def cost_by_hand(table, prices, fines, choice):
    total = 0
    for column in choice:
        total += prices[column]
    for row in range(len(table)):
        if not any(has(table, row, column) for column in choice):
            total += fines[row]
    return total


def choices_by_hand(width):
    """All choices, by taking or leaving each column."""
    return [tuple(column for column in range(width) if takes[column])
            for takes in product((False, True), repeat=width)]


def least_by_hand(table, prices, fines):
    """The least cost and all choices that cost it."""
    costs = {choice: cost_by_hand(table, prices, fines, choice) for choice in choices_by_hand(len(prices))}
    least = min(costs.values())
    return least, [choice for choice in costs if costs[choice] == least]


def worth_by_hand(table, prices, fines, column):
    without, having = [], []
    for choice in choices_by_hand(len(prices)):
        told = cost_by_hand(table, prices, fines, choice)
        if column in choice:
            having.append(told - prices[column])
        else:
            without.append(told)
    return min(without) - min(having)


def judge_weights(table, prices, fines, thing):
    if type(thing) is not tuple or len(thing) != len(table):
        return False
    for row, weight in enumerate(thing):
        if type(weight) is not int or weight < 0 or weight > fines[row]:
            return False
    return all(sum(thing[row] for row in range(len(table)) if has(table, row, column)) <= prices[column]
               for column in range(len(prices)))


def weights_by_hand(table, prices, fines):
    """All weights, tried one by one."""
    tried = product(*[range(fine + 1) for fine in fines])
    return [weights for weights in tried if judge_weights(table, prices, fines, weights)]


def judge_paper(table, prices, fines, thing):
    if type(thing) is not tuple or len(thing) != 2:
        return False
    if not judge_choice(table, thing[0]) or not judge_weights(table, prices, fines, thing[1]):
        return False
    return cost_by_hand(table, prices, fines, thing[0]) == sum(thing[1])


def go_by_hand(table, prices, fines, order):
    """The steps of point 14; what is left is worked out anew from the weights each time."""
    weights = {}

    def left(column):
        return prices[column] - sum(weights[row] for row in weights if has(table, row, column))

    for row in order[0]:
        lots = [fines[row]]
        for column in range(len(prices)):
            if has(table, row, column):
                lots.append(left(column))
        weights[row] = min(lots)
    choice = set()
    for column in reversed(order[1]):
        barred = any(weights[row] > 0 and has(table, row, column) and has(table, row, other)
                     for row in weights for other in choice)
        if left(column) == 0 and not barred:
            choice.add(column)
    return tuple(sorted(choice)), tuple(weights[row] for row in range(len(table)))


def are_apart_by_hand(table, rows):
    return not any(has(table, row, column) and has(table, other, column)
                   for row, other in combinations(rows, 2) for column in range(len(table[0])))
