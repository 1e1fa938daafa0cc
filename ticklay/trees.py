"""Trees, how far their nodes are from one another, and tables of balls."""

from ticklay.checks import is_index, is_integer_to
from ticklay.errors import InvalidBalls, InvalidIndex, InvalidTree
from ticklay.tables import BLANK, MOST, TICK

MOST_RADIUS = 8


def is_tree(thing):
    """Return whether any object is a tree."""
    # Node 0 has no parent, so a tree has one node more than the tuple has integers.
    if not isinstance(thing, tuple) or len(thing) >= MOST:
        return False
    return all([is_index(thing[at], at + 1) for at in range(len(thing))])


def check_tree(thing):
    """Raise InvalidTree for any object that is no tree."""
    if not is_tree(thing):
        raise InvalidTree("this is no tree")


def is_node(tree, thing):
    """Return whether any object is a node of a tree."""
    return is_integer_to(thing, len(tree))


def far(tree, node, other):
    """Return how far two nodes are from one another."""
    check_tree(tree)
    if not is_node(tree, node) or not is_node(tree, other):
        raise InvalidIndex("this is no node of the tree")
    return steps_between(tree, node, other)


def steps_between(tree, node, other):
    """Return the fewest steps between two nodes of which all is known to be right."""
    steps = 0
    low, high = sorted([node, other])
    # A parent is lesser than its node, so the greater of two nodes does not stand on the way
    # from the other one to node 0: the road between them begins with its parent.
    while low != high:
        low, high = sorted([low, tree[high - 1]])
        steps += 1
    return steps


def is_ball(tree, thing):
    """Return whether any object is a ball of a tree."""
    if not isinstance(thing, tuple) or len(thing) != 2:
        return False
    return is_node(tree, thing[0]) and is_integer_to(thing[1], MOST_RADIUS)


def check_balls(tree, thing):
    """Raise InvalidBalls for any object that is no tuple of one to eight balls of a tree."""
    if not isinstance(thing, tuple) or not 1 <= len(thing) <= MOST:
        raise InvalidBalls("this is no tuple of one to eight balls")
    if not all([is_ball(tree, item) for item in thing]):
        raise InvalidBalls("this is no tuple of balls of the tree")


def ball_table(tree, balls):
    """Return the table with a row for each ball and a column for each node."""
    check_tree(tree)
    check_balls(tree, balls)
    return tuple([ball_row(tree, node, radius) for node, radius in balls])


def ball_row(tree, node, radius):
    """Return the row of a ball, its nodes ticked."""
    nodes = range(len(tree) + 1)
    return "".join([TICK if steps_between(tree, node, other) <= radius else BLANK for other in nodes])
