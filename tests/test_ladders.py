import copy
import random
import unittest
from itertools import permutations

from tests.cost_samples import check_again
from tests.judges import (all_orders, has, in_order_by_hand, is_one_round, judge_lexical, judge_order, judge_ring,
                          squares_by_hand)
from tests.samples import (GOOD, RINGED, check_wrong_tables, many_tables, near_orders, near_tuples, put_within,
                           ring_alone, shuffled, small_tables, some_table, wrong_everywhere)
from ticklay.arrangements import arrangement, squares
from ticklay.errors import InvalidOrder, InvalidSquare, InvalidTable
from ticklay.ladders import ladder
from ticklay.lexical import lexical
from ticklay.rings import is_ring, ring
from ticklay.tables import part

ORDER, SQUARE = ((0, 2, 1), (0, 1, 2)), (0, 1, 0, 1)


def ladder_by_hand(table, order, square):
    """The steps of point 23 one by one, in the table written in its order."""
    ordered = in_order_by_hand(table, order)
    rows, columns = list(square[:2]), list(square[2:])
    while True:
        column = None
        for at in range(len(ordered[0])):
            if has(ordered, rows[-2], at) != has(ordered, rows[-1], at):
                column = at
        row = None
        for at in range(len(ordered)):
            if has(ordered, at, columns[-2]) != has(ordered, at, columns[-1]):
                row = at
        rows.append(row)
        columns.append(column)
        if has(ordered, row, column):
            return tuple(order[0][at] for at in rows), tuple(order[1][at] for at in columns)


def are_those_of_a_ring(table, rows, columns):
    """Whether rows and columns, in some order, are a ring: one round, by their ticks alone."""
    masks = [sum(1 << column for column in columns if has(table, row, column)) for row in rows]
    return len(rows) >= 3 and len(rows) == len(columns) and is_one_round(masks, columns)


def all_lexical_orders(table):
    return [order for order in all_orders(table) if judge_lexical(table, order)]


class Ladder(unittest.TestCase):
    def check_ladders(self, table, order):
        """Check the ladder of each square of a table in a lexical order; return how long they are."""
        ordered = in_order_by_hand(table, order)
        sizes = []
        for square in squares_by_hand(ordered):
            told = (table, order, square)
            found = check_again(self, ladder, table, order, square)
            self.assertEqual(found, ladder_by_hand(table, order, square), told)
            rows, columns = found
            self.assertEqual((type(found), type(rows), type(columns)), (tuple, tuple, tuple), told)
            self.assertEqual(rows[:2] + columns[:2], tuple([order[0][square[0]], order[0][square[1]],
                                                            order[1][square[2]], order[1][square[3]]]), told)
            self.assertEqual((len(set(rows)), len(set(columns))), (len(rows), len(columns)), told)
            self.assertTrue(are_those_of_a_ring(table, rows, columns), told)
            sizes.append(len(rows))
        return sizes

    def test_example(self):
        self.assertEqual(ladder(RINGED, ORDER, SQUARE), ((0, 2, 1), (0, 1, 2)))

    def test_every_lexical_order_of_small_tables(self):
        rnd = random.Random(151)
        tables = [table for table in small_tables(3, 3) if ring(table) is not None]
        tables += [table for table in rnd.sample(small_tables(3, 4) + small_tables(4, 3), 200) if ring(table)]
        met = 0
        for table in tables:
            for order in all_lexical_orders(table):
                sizes = self.check_ladders(table, order)
                self.assertNotEqual(sizes, [])
                met += len(sizes)
        self.assertGreater(met, 50)

    def test_tables_of_four_rows_and_columns(self):
        rnd = random.Random(152)
        for share in (0.4, 0.5, 0.6, 0.7):
            for _ in range(6):
                table = shuffled(rnd, put_within(rnd, RINGED, 4, 4, share))
                for order in all_lexical_orders(table):
                    self.check_ladders(table, order)

    def some_lexical_orders(self, rnd, table):
        """Lexical orders found from the table in other orders of its rows and columns."""
        orders = {lexical(table)}
        for _ in range(3):
            rows, columns = list(range(len(table))), list(range(len(table[0])))
            rnd.shuffle(rows)
            rnd.shuffle(columns)
            found = lexical(part(table, tuple(rows), tuple(columns)))
            orders.add((tuple(rows[at] for at in found[0]), tuple(columns[at] for at in found[1])))
        return sorted(orders)

    def test_drawn_tables_of_up_to_eight_rows_and_columns(self):
        rnd = random.Random(153)
        sizes = set()
        for height in range(3, 9):
            for width in range(3, 9):
                tables = [some_table(rnd, height, width, share) for share in (0.3, 0.45, 0.6, 0.75) for _ in range(2)]
                many = rnd.randint(3, min(height, width))
                tables += [shuffled(rnd, put_within(rnd, ring_alone(many), height, width, share))
                           for share in (0, 0.2, 0.8, 1)]
                for table in tables:
                    for order in self.some_lexical_orders(rnd, table):
                        self.assertTrue(judge_lexical(table, order))
                        sizes |= set(self.check_ladders(table, order))
        self.assertLessEqual({3, 4, 5, 6}, sizes)

    def test_rings_alone(self):
        rnd = random.Random(154)
        for many in range(3, 9):
            for table in (ring_alone(many), shuffled(rnd, ring_alone(many)), shuffled(rnd, ring_alone(many))):
                for order in self.some_lexical_orders(rnd, table):
                    sizes = self.check_ladders(table, order)
                    # A ring has no lesser one within it, so each ladder has all of its rows.
                    self.assertEqual(set(sizes), {many})

    def test_some_order_of_a_ladder_is_a_ring(self):
        rnd = random.Random(155)
        for many in (3, 4):
            table = shuffled(rnd, put_within(rnd, ring_alone(many), 5, 5, 0.5))
            order = lexical(table)
            for square in squares(part(table, *order)):
                rows, columns = ladder(table, order, square)
                self.assertTrue(any(judge_ring(table, (one, two)) and is_ring(table, (one, two))
                                    for one in permutations(rows) for two in permutations(columns)))

    def test_a_ladder_exactly_where_no_arrangement(self):
        for table in many_tables()[::3]:
            order = lexical(table)
            found = squares(part(table, *order))
            self.assertEqual(found == [], ring(table) is None)
            self.assertEqual(found == [], arrangement(table) is not None)

    def test_by_name(self):
        self.assertEqual(ladder(square=SQUARE, order=ORDER, table=RINGED), ((0, 2, 1), (0, 1, 2)))


class Errors(unittest.TestCase):
    def wrong_squares(self, good):
        things = near_tuples(good) + wrong_everywhere() + ['', 'x', '0101', RINGED, ORDER, [good], good[:2], good[2:]]
        things += [(good[:2], good[2:]), (good[2], good[3], good[0], good[1]), (good[1], good[0], good[2], good[3]),
                   (good[0], good[1], good[3], good[2]), tuple(bool(index) for index in good), list(good)]
        return things

    def is_square_by_hand(self, table, order, thing):
        if type(thing) is not tuple or any(type(index) is not int for index in thing):
            return False
        return list(thing) in [list(square) for square in squares_by_hand(in_order_by_hand(table, order))]

    def test_no_squares(self):
        rnd = random.Random(156)
        pairs = [(RINGED, ORDER, SQUARE)]
        for many in (3, 4, 6, 8):
            table = shuffled(rnd, put_within(rnd, ring_alone(many), 8, 8, 0.3))
            order = lexical(table)
            pairs += [(table, order, square) for square in squares_by_hand(in_order_by_hand(table, order))[:3]]
        for table, order, good in pairs:
            for thing in self.wrong_squares(good):
                before = copy.deepcopy(thing)
                with self.subTest(thing=repr(thing)[:80]):
                    if self.is_square_by_hand(table, order, thing):
                        self.assertEqual(ladder(table, order, thing), ladder_by_hand(table, order, thing))
                        continue
                    self.assertRaises(InvalidSquare, ladder, table, order, thing)
                    self.assertRaises(InvalidOrder, ladder, table, (order[1], ()), thing)
                    self.assertRaises(InvalidTable, ladder, list(table), order, thing)
                self.assertEqual(thing, before)

    def test_every_four_places_that_are_none(self):
        order = lexical(RINGED)
        for row in range(-1, 4):
            for other in range(-1, 4):
                for column in range(-1, 4):
                    for other_column in range(-1, 4):
                        square = (row, other, column, other_column)
                        if self.is_square_by_hand(RINGED, order, square):
                            self.assertEqual(ladder(RINGED, order, square), ladder_by_hand(RINGED, order, square))
                        else:
                            self.assertRaises(InvalidSquare, ladder, RINGED, order, square)

    def test_squares_of_the_table_as_it_stands(self):
        # A square of the table in another order is none here.
        rnd = random.Random(157)
        met = 0
        for _ in range(60):
            table = some_table(rnd, 5, 5, 0.5)
            order = lexical(table)
            here = squares_by_hand(in_order_by_hand(table, order))
            for square in squares_by_hand(table):
                if square not in here:
                    self.assertRaises(InvalidSquare, ladder, table, order, square)
                    met += 1
        self.assertGreater(met, 50)

    def test_no_squares_at_all(self):
        self.assertRaises(InvalidSquare, ladder, GOOD, lexical(GOOD), SQUARE)
        self.assertRaises(InvalidSquare, ladder, ('xx', 'xx'), ((0, 1), (0, 1)), SQUARE)
        self.assertRaises(InvalidSquare, ladder, ('x',), ((0,), (0,)), (0, 0, 0, 0))

    def test_no_lexical_orders(self):
        things = near_orders(ORDER) + near_tuples(ORDER) + wrong_everywhere() + ['', 'x', RINGED, SQUARE]
        things += all_orders(RINGED)
        refused = 0
        for thing in things:
            before = copy.deepcopy(thing)
            with self.subTest(thing=repr(thing)[:80]):
                if judge_order(RINGED, thing) and judge_lexical(RINGED, thing):
                    continue
                refused += 1
                for square in (SQUARE, None, (0, 1), [0, 1, 0, 1], (0, 1, 0, True)):
                    self.assertRaises(InvalidOrder, ladder, RINGED, thing, square)
                    self.assertRaises(InvalidTable, ladder, RINGED + ('x',), thing, square)
            self.assertEqual(thing, before)
        self.assertGreater(refused, 100)

    def test_orders_of_other_tables(self):
        rnd = random.Random(158)
        refused = 0
        for _ in range(100):
            table, other = some_table(rnd, 4, 4, 0.5), some_table(rnd, 4, 4, 0.5)
            if not judge_lexical(table, lexical(other)):
                refused += 1
                self.assertRaises(InvalidOrder, ladder, table, lexical(other), SQUARE)
        self.assertGreater(refused, 20)
        for other in (('xx', 'x.'), ('xxx.', '.xx.', 'x.x.'), RINGED + ('...',)):
            self.assertRaises(InvalidOrder, ladder, RINGED, lexical(other), SQUARE)

    def test_an_arrangement_need_not_be_lexical(self):
        table, order = ('x.', '.x'), ((1, 0), (0, 1))
        self.assertEqual(squares_by_hand(in_order_by_hand(table, order)), [])
        self.assertRaises(InvalidOrder, ladder, table, order, SQUARE)

    def test_wrong_tables(self):
        check_wrong_tables(self, lambda thing: ladder(thing, ORDER, SQUARE))
        check_wrong_tables(self, lambda thing: ladder(thing, None, None))
