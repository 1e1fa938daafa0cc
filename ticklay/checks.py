"""Checks of integers, indexes and lines, for any objects."""


def is_integer(thing):
    """Return whether any object is an int that is not a bool."""
    return isinstance(thing, int) and not isinstance(thing, bool)


def is_index(thing, count):
    """Return whether any object is an index of one of count things."""
    return is_integer(thing) and 0 <= thing < count


def are_indexes(thing, count):
    """Return whether any object is a tuple of such indexes, perhaps ()."""
    return isinstance(thing, tuple) and all([is_index(item, count) for item in thing])


def are_lines(thing, count):
    """Return whether any object is a tuple of one or more different indexes."""
    if not are_indexes(thing, count) or len(thing) == 0:
        return False
    return len(set(thing)) == len(thing)
