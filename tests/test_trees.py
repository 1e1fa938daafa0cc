import copy
import random
import unittest
from itertools import product

from tests.cost_samples import check_again
from tests.judges import ring_sizes
from tests.samples import GOOD, wrong_everywhere
from tests.tree_judges import (all_trees, ball_table_by_hand, far_by_hand, judge_balls, judge_tree, some_balls,
                               some_trees)
from ticklay.errors import InvalidBalls, InvalidIndex, InvalidTree
from ticklay.rings import ring
from ticklay.trees import ball_table, far, is_tree

WRONG_PARTS = [-1, -8, 8, 9, 10 ** 39, -10 ** 39, True, False, None, '0', '', (), (0,), [0], {}, {0: 0}]


def wrong_trees():
    """Return things that are no trees, many of them almost one."""
    things = wrong_everywhere() + ['', '0', '00', GOOD, (1,), (0, 2), (0, 0, 3), (0, 1, 2, 3, 4, 5, 7)]
    things += [(0,) * 8, tuple(range(8)), (0,) * 20000, [], [0, 0, 1], ((0, 0, 1),), {1: 0, 2: 0}, {0: 0}]
    for wrong in WRONG_PARTS:
        things += [(wrong,), (wrong, 0), (0, wrong), (0, 0, 1, wrong), (0, 0, wrong, 1), (0,) * 6 + (wrong,)]
    return [thing for thing in things if not judge_tree(thing)]


class IsTree(unittest.TestCase):
    def test_example(self):
        self.assertEqual((is_tree((0, 0, 1)), is_tree((1,)), far((0, 0, 1), 3, 2),
                          ball_table((0, 0, 1), ((0, 1), (3, 1), (2, 2)))),
                         (True, False, 3, ('xxx.', '.x.x', 'xxx.')))

    def test_all_trees(self):
        for many in range(1, 9):
            for tree in all_trees(many):
                self.assertIs(is_tree(tree), True)

    def test_all_short_tuples(self):
        for many in range(5):
            for thing in product((-2, -1, 0, 1, 2, 3, 4, True, False), repeat=many):
                self.assertIs(is_tree(thing), judge_tree(thing), thing)

    def test_one_eight_and_nine_nodes(self):
        self.assertIs(is_tree(()), True)
        self.assertIs(is_tree((0,) * 7), True)
        self.assertIs(is_tree((0, 1, 2, 3, 4, 5, 6)), True)
        self.assertIs(is_tree((0,) * 8), False)
        self.assertIs(is_tree((0, 1, 2, 3, 4, 5, 6, 7)), False)

    def test_each_parent_is_lesser(self):
        for at in range(7):
            for wrong in (at + 1, at + 2, -1, -at - 1, True, False, None, '0', [0]):
                tree = tuple(range(7))
                self.assertIs(is_tree(tree[:at] + (wrong,) + tree[at + 1:]), False)

    def test_wrong_things(self):
        for thing in wrong_trees():
            before = copy.deepcopy(thing)
            self.assertIs(is_tree(thing), False)
            self.assertEqual(thing, before)

    def test_by_name(self):
        self.assertIs(is_tree(thing=(0,)), True)


class Far(unittest.TestCase):
    def test_by_steps(self):
        for tree in some_trees():
            for node in range(len(tree) + 1):
                for other in range(len(tree) + 1):
                    found = far(tree, node, other)
                    self.assertEqual(found, far_by_hand(tree, node, other), (tree, node, other))
                    self.assertEqual(far(tree, other, node), found)
                self.assertEqual(far(tree, node, node), 0)

    def test_one_node_and_one_road(self):
        self.assertEqual(far((), 0, 0), 0)
        self.assertEqual(far((0, 1, 2, 3, 4, 5, 6), 0, 7), 7)
        self.assertEqual(far((0, 0, 0, 0, 0, 0, 0), 1, 7), 2)
        self.assertEqual(check_again(self, far, (0, 0, 1, 2, 3, 4, 5), 6, 7), 7)

    def test_no_nodes(self):
        for wrong in [4, 5, 7] + WRONG_PARTS + wrong_everywhere():
            if type(wrong) is int and wrong in range(4):
                continue
            before = copy.deepcopy(wrong)
            for node, other in ((wrong, 0), (3, wrong), (wrong, wrong), (wrong, 4), (None, wrong)):
                with self.assertRaises(InvalidIndex):
                    far((0, 0, 1), node, other)
                with self.assertRaises(InvalidTree):
                    far((0, 0, 3), node, other)
                with self.assertRaises(InvalidTree):
                    far([0, 0, 1], node, other)
            self.assertEqual(wrong, before)

    def test_the_nodes_are_one_more_than_the_parents(self):
        self.assertEqual(far((0,), 1, 0), 1)
        for tree, node in (((), 1), ((0,), 2), ((0,) * 7, 8)):
            with self.assertRaises(InvalidIndex):
                far(tree, node, 0)
            with self.assertRaises(InvalidIndex):
                far(tree, 0, node)

    def test_wrong_trees(self):
        for thing in wrong_trees():
            before = copy.deepcopy(thing)
            for node, other in ((0, 0), (None, 0), (0, True), (9, 9)):
                with self.assertRaises(InvalidTree):
                    far(thing, node, other)
            self.assertEqual(thing, before)

    def test_by_name(self):
        self.assertEqual(far(other=1, node=2, tree=(0, 1)), 1)


class BallTable(unittest.TestCase):
    def test_by_steps(self):
        rnd = random.Random(82)
        for tree in some_trees():
            for _ in range(3):
                balls = some_balls(rnd, tree)
                found = check_again(self, ball_table, tree, balls)
                self.assertEqual(found, ball_table_by_hand(tree, balls), (tree, balls))
                for row, (node, radius) in zip(found, balls):
                    for other, sign in enumerate(row):
                        self.assertEqual(sign == 'x', far(tree, node, other) <= radius)

    def test_no_ring(self):
        rnd = random.Random(83)
        for tree in some_trees():
            table = ball_table(tree, some_balls(rnd, tree))
            self.assertIsNone(ring(table))
            self.assertEqual(ring_sizes(table), set())

    def test_least_and_greatest_radius(self):
        for tree in some_trees():
            many = len(tree) + 1
            for node in range(many):
                alone = '.' * node + 'x' + '.' * (many - node - 1)
                self.assertEqual(ball_table(tree, ((node, 0), (node, 8), (node, 7))), (alone, 'x' * many, 'x' * many))

    def test_one_ball_eight_balls_and_a_ball_twice(self):
        self.assertEqual(ball_table((), ((0, 0),)), ('x',))
        self.assertEqual(ball_table((0,), ((1, 0),)), ('.x',))
        self.assertEqual(ball_table((0,), ((1, 0), (0, 0), (1, 0))), ('.x', 'x.', '.x'))
        self.assertEqual(ball_table((0, 1), ((1, 0), (0, 1)) * 4), ('.x.', 'xx.') * 4)

    def wrong_balls(self):
        good = (2, 1)
        things = wrong_everywhere() + ['', 'xx', (), (good,) * 9, (good,) * 20000, [good], [good] * 3, good, (good, ())]
        things += [((0,),), ((0, 1, 1),), (([0], 1),), ([2, 1],), (good, [2, 1]), ({2: 1},), ('21',), (2, 1), {2: 1}]
        for wrong in WRONG_PARTS + [4]:
            for ball in ((wrong, 1), (2, wrong), (wrong, 9), wrong):
                things += [(ball,), (good,) * 7 + (ball,), (ball, good)]
        return [thing for thing in things if not judge_balls((0, 0, 1), thing)]

    def test_wrong_balls(self):
        tree = (0, 0, 1)
        for balls in self.wrong_balls():
            before = copy.deepcopy(balls)
            with self.subTest(balls=repr(balls)[:80]):
                with self.assertRaises(InvalidBalls):
                    ball_table(tree, balls)
                with self.assertRaises(InvalidTree):
                    ball_table((0, 0, 3), balls)
                with self.assertRaises(InvalidTree):
                    ball_table([0, 0, 1], balls)
            self.assertEqual(balls, before)

    def test_wrong_at_each_ball_only(self):
        for many in (1, 2, 8):
            for at in range(many):
                for wrong in ((4, 1), (-1, 1), (True, 1), (0, 9), (0, -1), (0, True), (0,), (0, 1, 1), [0, 1], None, 0):
                    balls = [(3, 8)] * many
                    balls[at] = wrong
                    with self.assertRaises(InvalidBalls):
                        ball_table((0, 0, 1), tuple(balls))

    def test_the_node_of_a_ball_is_one_of_this_tree(self):
        self.assertEqual(ball_table((0, 0, 1, 1), ((4, 0),)), ('....x',))
        with self.assertRaises(InvalidBalls):
            ball_table((0, 0, 1), ((4, 0),))

    def test_wrong_trees(self):
        for thing in wrong_trees():
            before = copy.deepcopy(thing)
            for balls in (((0, 1),), (), None, ((0, 9),)):
                with self.assertRaises(InvalidTree):
                    ball_table(thing, balls)
            self.assertEqual(thing, before)

    def test_by_name(self):
        self.assertEqual(ball_table(balls=((0, 0),), tree=(0,)), ('x.',))
