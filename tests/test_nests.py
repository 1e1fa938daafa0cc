import copy
import random
import unittest

from tests.judges import nests_by_hand, taken_by_hand
from tests.samples import (GOOD, RINGED, check_new_lists, check_wrong_tables, many_tables, ring_alone, small_tables,
                           wrong_everywhere)
from ticklay.errors import InvalidColumns, InvalidTable
from ticklay.nests import core, nests, taken_away
from ticklay.rings import ring

WRONG_COLUMNS = [
    (1, 0), (0, 2, 1), (2, 1), (0, 0), (1, 1), (0, 1, 1), (0, 1, 2, 2), (3,), (0, 3), (0, 1, 2, 3), (10 ** 39,),
    (-1,), (-1, 0), (-3, -2, -1), (True,), (0, True), (False, 1), (False,), (0, 1, True), (0, None), ('0',), (0, '1'),
    ((0,),), (0, (1,)), (0, [1]), [0], [], [0, 1, 2], {}, {0: 1}, '', '0', '012', None, True, False, 0, 1, 2,
]


class Nests(unittest.TestCase):
    def test_example(self):
        self.assertEqual((nests(GOOD, (0, 1, 2)), nests(GOOD, (1, 2)), taken_away(GOOD), core(GOOD), core(RINGED)),
                         ([0, 2], [1, 2], [0, 1, 2], (), (0, 1, 2)))

    def test_no_columns(self):
        for table in many_tables():
            self.assertEqual(nests(table, ()), [])

    def test_all_and_some_columns(self):
        rnd = random.Random(18)
        for table in many_tables():
            width = len(table[0])
            choices = [tuple(range(width))]
            choices += [tuple(sorted(rnd.sample(range(width), rnd.randint(1, width)))) for _ in range(3)]
            for columns in choices:
                self.assertEqual(nests(table, columns), nests_by_hand(table, columns), (table, columns))

    def test_all_choices_of_small_tables(self):
        choices = [(0,), (1,), (2,), (0, 1), (0, 2), (1, 2), (0, 1, 2)]
        for table in small_tables(3, 3):
            for columns in choices:
                self.assertEqual(nests(table, columns), nests_by_hand(table, columns), (table, columns))

    def test_one_row_equal_rows_and_no_row(self):
        self.assertEqual(nests(('x.x',), (0, 1, 2)), [0, 1, 2])
        self.assertEqual(nests(('xx.', 'xx.', 'xx.'), (0, 1, 2)), [0, 1, 2])
        self.assertEqual(nests(('...', '...'), (0, 2)), [0, 2])
        self.assertEqual(nests(('xx.', 'x.x'), (0, 1, 2)), [1, 2])
        self.assertEqual(nests(('xx.', 'x.x'), (0, 1)), [0, 1])

    def test_rows_apart_by_more_than_a_neighbour(self):
        table = ('x...', 'xx..', 'x.xx', 'xxxx')
        self.assertEqual(nests(table, (0, 1, 2, 3)), [1, 2, 3])

    def test_wrong_columns(self):
        for columns in WRONG_COLUMNS + wrong_everywhere():
            before = copy.deepcopy(columns)
            with self.subTest(columns=repr(columns)[:80]):
                with self.assertRaises(InvalidColumns):
                    nests(GOOD, columns)
                with self.assertRaises(InvalidTable):
                    nests(('xx', 'x'), columns)
                with self.assertRaises(InvalidTable):
                    nests(list(GOOD), columns)
                self.assertEqual(columns, before)

    def test_columns_not_rows_are_the_limit(self):
        self.assertEqual(nests(('xxxx',), (3,)), [3])
        with self.assertRaises(InvalidColumns):
            nests(('x', 'x', 'x'), (1,))

    def test_new(self):
        check_new_lists(self, lambda: nests(GOOD, (0, 1, 2)))
        check_new_lists(self, lambda: nests(GOOD, ()))

    def test_wrong_tables(self):
        check_wrong_tables(self, lambda thing: nests(thing, ()))
        check_wrong_tables(self, lambda thing: nests(thing, (0,)))

    def test_by_name(self):
        self.assertEqual(nests(columns=(0,), table=('x',)), [0])


class TakenAway(unittest.TestCase):
    def test_order_and_core(self):
        for table in small_tables(3, 3) + many_tables():
            away, left = taken_by_hand(table)
            self.assertEqual(taken_away(table), away, table)
            self.assertEqual(core(table), left, table)
            self.assertIs(type(core(table)), tuple)

    def test_least_nest_at_each_time(self):
        # Column 0 is no nest until column 1 is away, and then it goes ahead of column 2.
        self.assertEqual(taken_away(('xx.', 'x.x')), [1, 0, 2])

    def test_core_is_none_exactly_if_there_is_no_ring(self):
        for table in many_tables():
            self.assertEqual(core(table) == (), ring(table) is None, table)

    def test_same_core_in_whatever_order(self):
        rnd = random.Random(19)
        for table in many_tables():
            left = tuple(range(len(table[0])))
            found = nests(table, left)
            while found:
                away = rnd.choice(found)
                left = tuple(column for column in left if column != away)
                found = nests(table, left)
            self.assertEqual(left, core(table), table)

    def test_rings_alone_stay(self):
        for many in range(3, 9):
            self.assertEqual(taken_away(ring_alone(many)), [])
            self.assertEqual(core(ring_alone(many)), tuple(range(many)))
        self.assertEqual((taken_away(('xx.x', '.xx.', 'x.x.')), core(('xx.x', '.xx.', 'x.x.'))), ([3], (0, 1, 2)))
        self.assertEqual((taken_away(('xxx.', '..xx', '.x.x')), core(('xxx.', '..xx', '.x.x'))), ([0], (1, 2, 3)))

    def test_new(self):
        check_new_lists(self, lambda: taken_away(GOOD))
        check_new_lists(self, lambda: taken_away(RINGED))

    def test_wrong_tables(self):
        check_wrong_tables(self, taken_away)
        check_wrong_tables(self, core)

    def test_by_name(self):
        self.assertEqual(taken_away(table=('x',)), [0])
        self.assertEqual(core(table=('x',)), ())
