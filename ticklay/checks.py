"""Checks of integers, amounts, indexes, lines and orders, for any objects."""

MOST_AMOUNT = 999


def is_integer(thing):
    """Return whether any object is an int that is not a bool."""
    return isinstance(thing, int) and not isinstance(thing, bool)


def is_integer_to(thing, most):
    """Return whether any object is an integer from 0 to most."""
    return is_integer(thing) and 0 <= thing <= most


def is_amount(thing):
    """Return whether any object is an integer that a price, or a fine, may be."""
    return is_integer_to(thing, MOST_AMOUNT)


def are_amounts(thing, count):
    """Return whether any object is a tuple of so many prices, or fines."""
    if not isinstance(thing, tuple) or len(thing) != count:
        return False
    return all([is_amount(item) for item in thing])


def is_index(thing, count):
    """Return whether any object is an index of one of count things."""
    return is_integer_to(thing, count - 1)


def are_indexes(thing, count):
    """Return whether any object is a tuple of such indexes, perhaps ()."""
    return isinstance(thing, tuple) and all([is_index(item, count) for item in thing])


def are_lines(thing, count):
    """Return whether any object is a tuple of one or more different indexes."""
    if not are_indexes(thing, count) or len(thing) == 0:
        return False
    return len(set(thing)) == len(thing)


def are_ascending(thing, count):
    """Return whether any object is an ascending tuple of different indexes, perhaps ()."""
    if not are_indexes(thing, count):
        return False
    return all([thing[at - 1] < thing[at] for at in range(1, len(thing))])


def are_crossed(thing, height, width):
    """Return whether any object is a tuple (rows, columns) of lines."""
    if not isinstance(thing, tuple) or len(thing) != 2:
        return False
    return are_lines(thing[0], height) and are_lines(thing[1], width)


def is_order(table, thing):
    """Return whether any object is an order of a table."""
    if not are_crossed(thing, len(table), len(table[0])):
        return False
    return len(thing[0]) == len(table) and len(thing[1]) == len(table[0])
