import copy
import random
import unittest
from functools import cmp_to_key
from itertools import permutations, product

from tests.cost_samples import check_again
from tests.judges import has, judge_arrangement, nests_by_hand
from tests.samples import (GOOD, RINGED, check_wrong_tables, many_tables, near_tuples, ring_alone, small_tables,
                           squareless_table, wrong_everywhere)
from tests.test_trees import wrong_trees
from tests.tree_judges import ball_table_by_hand, far_by_hand, judge_balls, judge_tree, some_balls, some_trees
from ticklay.arrangements import arrangement, is_arrangement
from ticklay.errors import InvalidBalls, InvalidColumns, InvalidTable, InvalidTree
from ticklay.nests import core, taken_away
from ticklay.roads import ball_order, by_nests
from ticklay.trees import ball_table


def judge_nest_order(table, thing):
    """Whether a thing is all columns, each a nest among itself and those behind it (point 24)."""
    if type(thing) is not tuple or any(type(column) is not int for column in thing):
        return False
    if sorted(thing) != list(range(len(table[0]))):
        return False
    return all(thing[at] in nests_by_hand(table, thing[at:]) for at in range(len(thing)))


def rows_by_hand(table, columns):
    """The rows in their order, compared sign by sign from the last column to the first one."""
    def compared(row, other):
        for column in columns[::-1]:
            if has(table, row, column) != has(table, other, column):
                return 1 if has(table, row, column) else -1
        return row - other

    return tuple(sorted(range(len(table)), key=cmp_to_key(compared)))


def drawn_nest_order(rnd, table):
    """Some order of nests of a table, or None if all columns of a ring are left."""
    left, order = list(range(len(table[0]))), ()
    while left:
        found = nests_by_hand(table, left)
        if not found:
            return None
        order += (rnd.choice(found),)
        left.remove(order[-1])
    return order


class ByNests(unittest.TestCase):
    def check_order(self, table, columns):
        found = check_again(self, by_nests, table, columns)
        self.assertEqual(found, (rows_by_hand(table, columns), columns), (table, columns))
        self.assertEqual((type(found), type(found[0]), type(found[1])), (tuple, tuple, tuple))
        self.assertTrue(judge_arrangement(table, found), (table, columns))

    def test_example(self):
        self.assertEqual(by_nests(GOOD, (0, 1, 2)), ((0, 1, 2), (0, 1, 2)))

    def test_each_order_of_small_tables(self):
        rnd = random.Random(161)
        tables = small_tables(3, 3) + small_tables(2, 3) + small_tables(1, 3) + small_tables(4, 2)
        tables += rnd.sample(small_tables(3, 4), 60) + rnd.sample(small_tables(4, 3), 200)
        refused, taken = 0, 0
        for table in tables:
            for columns in permutations(range(len(table[0]))):
                if judge_nest_order(table, columns):
                    self.check_order(table, columns)
                    taken += 1
                else:
                    self.assertRaises(InvalidColumns, by_nests, table, columns)
                    refused += 1
        self.assertGreater(taken, 1000)
        self.assertGreater(refused, 300)

    def test_drawn_orders_of_greater_tables(self):
        rnd = random.Random(162)
        for height in range(1, 9):
            for width in range(1, 9):
                for share in (0.15, 0.35, 0.6):
                    table = squareless_table(rnd, height, width, share)
                    for _ in range(3):
                        self.check_order(table, drawn_nest_order(rnd, table))

    def test_columns_taken_away_and_columns_of_an_arrangement(self):
        for table in many_tables():
            if core(table) == ():
                self.check_order(table, tuple(taken_away(table)))
                self.check_order(table, arrangement(table)[1])
            else:
                self.assertRaises(InvalidColumns, by_nests, table, tuple(taken_away(table)))

    def test_equal_rows_stand_by_their_indexes(self):
        self.assertEqual(by_nests(('xx', 'x.', 'xx', 'x.', 'xx'), (0, 1)), ((1, 3, 0, 2, 4), (0, 1)))
        self.assertEqual(by_nests(('x',) * 8, (0,)), ((0, 1, 2, 3, 4, 5, 6, 7), (0,)))
        self.assertEqual(by_nests(('...',) * 3, (2, 0, 1)), ((0, 1, 2), (2, 0, 1)))

    def test_read_from_the_last_sign_in_this_order(self):
        self.assertEqual(by_nests(('x.', '.x'), (0, 1)), ((0, 1), (0, 1)))
        self.assertEqual(by_nests(('x.', '.x'), (1, 0)), ((1, 0), (1, 0)))
        self.assertEqual(by_nests(('xx.', '.x.', '..x'), (2, 0, 1)), ((2, 1, 0), (2, 0, 1)))

    def test_tables_with_a_ring(self):
        for table in (RINGED, ring_alone(4), RINGED + ('...',), tuple(row + '.' for row in RINGED)):
            for columns in permutations(range(len(table[0]))):
                self.assertRaises(InvalidColumns, by_nests, table, columns)

    def test_wrong_columns(self):
        rnd = random.Random(163)
        pairs = [(GOOD, (0, 1, 2)), (('x',), (0,)), (('xx', 'xx'), (1, 0)), (('x.x.x.x.',), (7, 6, 5, 4, 3, 2, 1, 0))]
        table = squareless_table(rnd, 8, 8, 0.3)
        for table, good in pairs + [(table, drawn_nest_order(rnd, table))]:
            things = near_tuples(good) + wrong_everywhere() + [good + (len(good),), good[:-1], '', '012', tuple('012')]
            things += [tuple(bool(column) for column in good), list(good), [good], (good,), good * 2, set(good)]
            for thing in things:
                before = copy.deepcopy(thing)
                with self.subTest(thing=repr(thing)[:80]):
                    if judge_nest_order(table, thing):
                        self.check_order(table, thing)
                        continue
                    self.assertRaises(InvalidColumns, by_nests, table, thing)
                    self.assertRaises(InvalidTable, by_nests, list(table), thing)
                self.assertEqual(thing, before)

    def test_a_nest_among_all_but_not_in_its_turn(self):
        # Column 1 is no nest among all columns, but it is one as soon as column 0 or 2 is away.
        table = ('xx.', '.xx')
        self.assertRaises(InvalidColumns, by_nests, table, (1, 0, 2))
        for columns in ((0, 1, 2), (2, 1, 0), (0, 2, 1), (2, 0, 1)):
            self.check_order(table, columns)

    def test_wrong_tables(self):
        check_wrong_tables(self, lambda thing: by_nests(thing, (0, 1, 2)))
        check_wrong_tables(self, lambda thing: by_nests(thing, None))

    def test_by_name(self):
        self.assertEqual(by_nests(columns=(0,), table=('x',)), ((0,), (0,)))


def ball_order_by_hand(tree, balls):
    def nodes_compared(node, other):
        apart = far_by_hand(tree, other, 0) - far_by_hand(tree, node, 0)
        return apart or node - other

    def balls_compared(ball, other):
        (node, radius), (other_node, other_radius) = balls[ball], balls[other]
        least = (radius - far_by_hand(tree, node, 0)) - (other_radius - far_by_hand(tree, other_node, 0))
        return least or ball - other

    return (tuple(sorted(range(len(balls)), key=cmp_to_key(balls_compared))),
            tuple(sorted(range(len(tree) + 1), key=cmp_to_key(nodes_compared))))


class BallOrder(unittest.TestCase):
    def check_order(self, tree, balls):
        found = check_again(self, ball_order, tree, balls)
        self.assertEqual(found, ball_order_by_hand(tree, balls), (tree, balls))
        self.assertEqual((type(found), type(found[0]), type(found[1])), (tuple, tuple, tuple))
        self.assertTrue(judge_arrangement(ball_table_by_hand(tree, balls), found), (tree, balls))
        return found

    def test_example(self):
        self.assertEqual(ball_order((0, 0, 1), ((0, 1), (3, 1), (2, 2))), ((1, 0, 2), (3, 1, 2, 0)))

    def test_drawn_trees_and_balls(self):
        rnd = random.Random(164)
        for tree in some_trees():
            for _ in range(4):
                balls = some_balls(rnd, tree)
                found = self.check_order(tree, balls)
                table = ball_table(tree, balls)
                self.assertIs(is_arrangement(table, found), True)
                # The nodes of an arrangement are an order of nests.
                self.assertIs(is_arrangement(table, by_nests(table, found[1])), True)

    def test_all_balls_of_small_trees(self):
        for tree in ((), (0,), (0, 0), (0, 1), (0, 1, 1), (0, 0, 1)):
            every = [(node, radius) for node in range(len(tree) + 1) for radius in range(4)]
            for balls in product(every, repeat=2):
                self.check_order(tree, balls)
            self.check_order(tree, tuple(every[:8]))
            self.check_order(tree, tuple(every[-8:][::-1]))

    def test_one_node_and_equal_balls(self):
        self.assertEqual(ball_order((), ((0, 0),)), ((0,), (0,)))
        self.assertEqual(ball_order((), ((0, 8), (0, 0), (0, 8), (0, 1))), ((1, 3, 0, 2), (0,)))
        self.assertEqual(ball_order((0, 0, 0), ((1, 1), (2, 1), (0, 0), (3, 1))), ((0, 1, 2, 3), (1, 2, 3, 0)))
        self.assertEqual(ball_order((0, 1, 2, 3, 4, 5, 6), ((7, 0), (0, 8), (7, 8), (0, 0))),
                         ((0, 3, 2, 1), (7, 6, 5, 4, 3, 2, 1, 0)))

    def test_wrong_balls(self):
        tree, good = (0, 0, 1), ((0, 1), (3, 1), (2, 2))
        things = near_tuples(good) + wrong_everywhere() + ['', (), good * 3, list(good), good[0], ((4, 0),), ((0, 9),)]
        things += [(ball,) for ball in near_tuples((2, 1))] + [good[:1] + (ball,) for ball in near_tuples((2, 1))]
        for thing in things:
            before = copy.deepcopy(thing)
            with self.subTest(thing=repr(thing)[:80]):
                if judge_balls(tree, thing):
                    self.check_order(tree, thing)
                    continue
                self.assertRaises(InvalidBalls, ball_order, tree, thing)
                self.assertRaises(InvalidTree, ball_order, (0, 0, 3), thing)
                self.assertRaises(InvalidTree, ball_order, [0, 0, 1], thing)
            self.assertEqual(thing, before)

    def test_wrong_trees(self):
        for thing in wrong_trees() + near_tuples((0, 0, 1)):
            before = copy.deepcopy(thing)
            if not judge_tree(thing):
                for balls in (((0, 1),), (), None, ((0, 9),), ((9, 0),)):
                    self.assertRaises(InvalidTree, ball_order, thing, balls)
            self.assertEqual(thing, before)

    def test_by_name(self):
        self.assertEqual(ball_order(balls=((0, 0),), tree=(0,)), ((0,), (1, 0)))
