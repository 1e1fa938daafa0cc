"""Straight roads to an arrangement: by an order of nests, and by the nodes of a tree."""

from ticklay.checks import are_lines
from ticklay.errors import InvalidColumns
from ticklay.lexical import sorted_lines
from ticklay.nests import is_nest
from ticklay.tables import check_table
from ticklay.trees import check_balls, check_tree, steps_between


def by_nests(table, columns):
    """Return the order of a table with columns in an order of nests, its rows ascending from their ends."""
    check_table(table)
    if not are_nests_in_order(table, columns):
        raise InvalidColumns("this is no order of all columns, each a nest among those behind it")
    return sorted_lines(table, tuple(range(len(table))), columns), columns


def are_nests_in_order(table, thing):
    """Return whether any object is all columns, each a nest among itself and those behind it."""
    if not are_lines(thing, len(table[0])) or len(thing) != len(table[0]):
        return False
    return all([is_nest(table, thing[at], thing[at:]) for at in range(len(thing))])


def ball_order(tree, balls):
    """Return the order of the table of balls by how far nodes and the ends of balls are from node 0."""
    check_tree(tree)
    check_balls(tree, balls)
    # How far each node is from node 0.
    depths = [steps_between(tree, 0, node) for node in range(len(tree) + 1)]
    rows = ascending_by([radius - depths[node] for node, radius in balls])
    columns = ascending_by([-depth for depth in depths])
    return rows, columns


def ascending_by(numbers):
    """Return the tuple of the indexes of some numbers, least number first, of equal ones lesser index first."""
    told = sorted([(numbers[at], at) for at in range(len(numbers))])
    return tuple([at for _, at in told])
