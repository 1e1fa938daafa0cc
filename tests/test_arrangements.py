import copy
import random
import unittest

from tests.judges import all_orders, judge_arrangement, judge_ring, squares_by_hand
from tests.samples import (GOOD, RINGED, check_new_lists, check_wrong_tables, many_tables, near_orders, road_table,
                           small_tables, some_table, wrong_everywhere)
from ticklay.arrangements import arrangement, is_arrangement, squares
from ticklay.rings import ring


class Squares(unittest.TestCase):
    def test_examples(self):
        self.assertEqual((squares(('xx', 'x.')), squares(GOOD), is_arrangement(GOOD, ((0, 1, 2), (0, 1, 2))),
                          arrangement(RINGED)), ([(0, 1, 0, 1)], [], True, None))

    def test_two_rows_and_columns(self):
        for table in small_tables(2, 2):
            self.assertEqual(squares(table), [(0, 1, 0, 1)] if table == ('xx', 'x.') else [], table)

    def test_all_of_them_ascending(self):
        self.assertEqual(squares(('xxx', 'x..', 'x..')),
                         [(0, 1, 0, 1), (0, 1, 0, 2), (0, 2, 0, 1), (0, 2, 0, 2)])
        self.assertEqual(squares(('x.x', '...', 'x..')), [(0, 2, 0, 2)])
        for table in small_tables(3, 3) + many_tables():
            self.assertEqual(squares(table), squares_by_hand(table), table)

    def test_one_row_or_column(self):
        self.assertEqual(squares(('xxxxxxxx',)), [])
        self.assertEqual(squares(('x',) * 8), [])

    def test_kinds_and_new(self):
        for square in squares(('xxx', 'x..')):
            self.assertIs(type(square), tuple)
        check_new_lists(self, lambda: squares(('xxx', 'x..')))
        check_new_lists(self, lambda: squares(GOOD))

    def test_wrong_tables(self):
        check_wrong_tables(self, squares)

    def test_by_name(self):
        self.assertEqual(squares(table=('xx', 'x.')), [(0, 1, 0, 1)])


class IsArrangement(unittest.TestCase):
    def test_all_orders_of_small_tables(self):
        rnd = random.Random(11)
        for table in small_tables(2, 3) + small_tables(3, 2) + rnd.sample(small_tables(3, 3), 150):
            for order in all_orders(table):
                self.assertIs(is_arrangement(table, order), judge_arrangement(table, order), (table, order))

    def test_near_things(self):
        rnd = random.Random(12)
        for height in range(1, 9):
            for width in range(1, 9):
                table = road_table(rnd, height, width)
                order = arrangement(table)
                self.assertIs(is_arrangement(table, order), True)
                for thing in near_orders(order):
                    before = copy.deepcopy(thing)
                    self.assertIs(is_arrangement(table, thing), judge_arrangement(table, thing), (table, thing))
                    self.assertEqual(thing, before)

    def test_as_it_stands_is_not_enough(self):
        self.assertIs(is_arrangement(('xx', 'x.'), ((0, 1), (0, 1))), False)
        self.assertIs(is_arrangement(('xx', 'x.'), ((1, 0), (0, 1))), True)
        self.assertIs(is_arrangement(('xx', 'x.'), ((0, 1), (1, 0))), True)

    def test_wrong_things(self):
        for thing in wrong_everywhere() + [(), '', 'x', GOOD, ((0, 1, 2), 'xxx')]:
            before = copy.deepcopy(thing)
            self.assertIs(is_arrangement(GOOD, thing), False)
            self.assertEqual(thing, before)

    def test_wrong_tables(self):
        check_wrong_tables(self, lambda thing: is_arrangement(thing, ((0, 1, 2), (0, 1, 2))))
        check_wrong_tables(self, lambda thing: is_arrangement(thing, None))

    def test_by_name(self):
        self.assertIs(is_arrangement(thing=((0, 1, 2), (0, 1, 2)), table=GOOD), True)


class Arrangement(unittest.TestCase):
    def test_small_tables_against_all_orders(self):
        rnd = random.Random(13)
        tables = small_tables(3, 3) + small_tables(2, 4) + rnd.sample(small_tables(4, 3), 100)
        tables += [some_table(rnd, 4, 4, 0.55) for _ in range(60)]
        for table in tables:
            found = arrangement(table)
            if found is None:
                self.assertFalse(any(judge_arrangement(table, order) for order in all_orders(table)), table)
            else:
                self.assertTrue(judge_arrangement(table, found), table)

    def test_either_an_arrangement_or_a_ring(self):
        rnd = random.Random(14)
        tables = many_tables() + [some_table(rnd, 8, 8, share) for share in (0.1, 0.2, 0.8, 0.9) for _ in range(50)]
        without = 0
        for table in tables:
            order = arrangement(table)
            found = ring(table)
            self.assertEqual(order is None, found is not None, table)
            without += found is None
            if found is None:
                self.assertTrue(judge_arrangement(table, order), table)
                self.assertIs(is_arrangement(table, order), True)
            else:
                self.assertTrue(judge_ring(table, found), table)
        self.assertGreater(without, 100)

    def test_wrong_tables(self):
        check_wrong_tables(self, arrangement)

    def test_by_name(self):
        self.assertIsNone(arrangement(table=RINGED))
