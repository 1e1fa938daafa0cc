"""The words of point 18, read one by one, to judge the program by."""

import random
from itertools import product


def judge_tree(thing):
    if type(thing) is not tuple or len(thing) > 7:
        return False
    return all(type(parent) is int and 0 <= parent < node for node, parent in enumerate(thing, 1))


def far_by_hand(tree, node, other):
    """The steps from a node, counted round by round until the other one is reached."""
    reached, steps = {node}, 0
    while other not in reached:
        more = set()
        for child, parent in enumerate(tree, 1):
            if child in reached:
                more.add(parent)
            if parent in reached:
                more.add(child)
        reached |= more
        steps += 1
    return steps


def judge_balls(tree, thing):
    if type(thing) is not tuple or len(thing) not in range(1, 9):
        return False
    for ball in thing:
        if type(ball) is not tuple or len(ball) != 2 or not all(type(part) is int for part in ball):
            return False
        if ball[0] not in range(len(tree) + 1) or ball[1] not in range(9):
            return False
    return True


def ball_table_by_hand(tree, balls):
    rows = []
    for node, radius in balls:
        row = ''
        for other in range(len(tree) + 1):
            row += 'x' if far_by_hand(tree, node, other) <= radius else '.'
        rows.append(row)
    return tuple(rows)


def all_trees(many):
    """All trees of so many nodes."""
    return list(product(*[range(node) for node in range(1, many)]))


def some_trees():
    """All trees of up to five nodes, and some of each greater number."""
    rnd = random.Random(81)
    trees = [tree for many in range(1, 6) for tree in all_trees(many)]
    for many in (6, 7, 8):
        trees += rnd.sample(all_trees(many), 40)
        trees += [(0,) * (many - 1), tuple(range(many - 1))]
    return trees


def some_balls(rnd, tree):
    return tuple((rnd.randint(0, len(tree)), rnd.choice((0, 1, 1, 2, 3, rnd.randint(0, 8))))
                 for _ in range(rnd.randint(1, 8)))
