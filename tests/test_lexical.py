import copy
import random
import unittest

from tests.judges import all_orders, in_order_by_hand, judge_lexical, squares_by_hand
from tests.samples import (GOOD, RINGED, check_wrong_tables, many_tables, near_orders, small_tables, some_table,
                           wrong_everywhere)
from ticklay.lexical import is_lexical, lexical
from ticklay.rings import ring


class IsLexical(unittest.TestCase):
    def test_example(self):
        self.assertEqual((is_lexical(GOOD, ((0, 1, 2), (0, 2, 1))), is_lexical(GOOD, ((0, 1, 2), (0, 1, 2))),
                          len(lexical(RINGED)[0])), (True, False, 3))

    def test_read_from_the_end_and_ticks_are_greater(self):
        self.assertIs(is_lexical(('x.', '.x'), ((0, 1), (0, 1))), True)
        self.assertIs(is_lexical(('x.', '.x'), ((1, 0), (0, 1))), False)
        self.assertIs(is_lexical(('.', 'x'), ((0, 1), (0,))), True)
        self.assertIs(is_lexical(('.', 'x'), ((1, 0), (0,))), False)
        self.assertIs(is_lexical(('.x',), ((0,), (0, 1))), True)
        self.assertIs(is_lexical(('.x',), ((0,), (1, 0))), False)

    def test_rows_alone_or_columns_alone_are_not_enough(self):
        rows_only = 0
        columns_only = 0
        for table in small_tables(2, 3) + small_tables(3, 3):
            order = (tuple(range(len(table))), (0, 1, 2))
            rows_ascend = list(table) == sorted(table, key=lambda row: row[::-1])
            across = [''.join(signs)[::-1] for signs in zip(*table)]
            columns_ascend = across == sorted(across)
            self.assertIs(is_lexical(table, order), rows_ascend and columns_ascend, table)
            rows_only += rows_ascend and not columns_ascend
            columns_only += columns_ascend and not rows_ascend
        self.assertTrue(rows_only and columns_only)

    def test_all_orders_of_small_tables(self):
        rnd = random.Random(15)
        for table in small_tables(2, 2) + rnd.sample(small_tables(3, 3), 100) + rnd.sample(small_tables(2, 4), 30):
            for order in all_orders(table):
                self.assertIs(is_lexical(table, order), judge_lexical(table, order), (table, order))

    def test_near_things(self):
        rnd = random.Random(16)
        for height in range(1, 9):
            for width in range(1, 9):
                table = some_table(rnd, height, width, 0.5)
                order = lexical(table)
                self.assertIs(is_lexical(table, order), True)
                for thing in near_orders(order):
                    before = copy.deepcopy(thing)
                    self.assertIs(is_lexical(table, thing), judge_lexical(table, thing), (table, thing))
                    self.assertEqual(thing, before)

    def test_wrong_things(self):
        for thing in wrong_everywhere() + [(), '', 'x', GOOD, ((0, 1, 2), 'xxx')]:
            before = copy.deepcopy(thing)
            self.assertIs(is_lexical(GOOD, thing), False)
            self.assertEqual(thing, before)

    def test_wrong_tables(self):
        check_wrong_tables(self, lambda thing: is_lexical(thing, ((0, 1, 2), (0, 1, 2))))
        check_wrong_tables(self, lambda thing: is_lexical(thing, None))

    def test_by_name(self):
        self.assertIs(is_lexical(thing=((0,), (0,)), table=('x',)), True)


class Lexical(unittest.TestCase):
    def test_every_table_has_one(self):
        rnd = random.Random(17)
        tables = small_tables(3, 3) + many_tables()
        tables += [some_table(rnd, 8, 8, share) for share in (0.1, 0.2, 0.5, 0.8, 0.9) for _ in range(50)]
        for table in tables:
            order = lexical(table)
            self.assertTrue(judge_lexical(table, order), table)
            self.assertIs(is_lexical(table, order), True)
            has_squares = squares_by_hand(in_order_by_hand(table, order)) != []
            self.assertEqual(has_squares, ring(table) is not None, table)

    def test_wrong_tables(self):
        check_wrong_tables(self, lexical)

    def test_by_name(self):
        self.assertEqual(lexical(table=('x',)), ((0,), (0,)))
