import copy
import random
import unittest

from tests.judges import has, in_order_by_hand
from tests.samples import GOOD, check_new_lists, check_wrong_tables, many_tables, wrong_everywhere, wrong_tables
from ticklay.errors import InvalidLines, InvalidTable
from ticklay.tables import is_table, part, ticks, turned


class IsTable(unittest.TestCase):
    def test_example(self):
        table = ('xx.', '.xx', 'xxx')
        self.assertEqual((is_table(table), is_table(('xx', 'x')), turned(('xx.', '.x.')),
                          part(table, (2, 0), (1, 2)), ticks(('x.', '.x'))),
                         (True, False, ('x.', 'xx', '..'), ('xx', 'x.'), [(0, 0), (1, 1)]))

    def test_tables_of_every_size(self):
        for table in many_tables():
            self.assertIs(is_table(table), True, table)
        for height in range(1, 9):
            for width in range(1, 9):
                self.assertIs(is_table(('x' * width,) * height), True)
                self.assertIs(is_table(('.' * width,) * height), True)

    def test_too_many_rows_or_signs(self):
        self.assertIs(is_table(('x',) * 9), False)
        self.assertIs(is_table(('x' * 9,)), False)
        self.assertIs(is_table(('x' * 8,) * 9), False)
        self.assertIs(is_table(('x' * 9,) * 8), False)

    def test_no_row_and_no_sign(self):
        self.assertIs(is_table(()), False)
        self.assertIs(is_table(('',)), False)
        self.assertIs(is_table(('', '')), False)

    def test_wrong_things(self):
        for thing in wrong_tables():
            before = copy.deepcopy(thing)
            with self.subTest(thing=repr(thing)[:80]):
                self.assertIs(is_table(thing), False)
                self.assertEqual(thing, before)

    def test_wrong_at_each_place_only(self):
        for height in (1, 2, 8):
            for at in range(height):
                for wrong in ('xx', 'xxxx', 'xxX', 'x x', '', None, 3, True, ('x', 'x', 'x'), ['x', 'x', 'x']):
                    rows = ['x.x'] * height
                    rows[at] = wrong
                    self.assertIs(is_table(tuple(rows)), height == 1 and wrong in ('xx', 'xxxx'), rows)

    def test_by_name(self):
        self.assertIs(is_table(thing=('x',)), True)


class Turned(unittest.TestCase):
    def test_each_place(self):
        for table in many_tables():
            found = turned(table)
            self.assertIs(is_table(found), True)
            self.assertEqual((len(found), len(found[0])), (len(table[0]), len(table)))
            for row in range(len(table)):
                for column in range(len(table[0])):
                    self.assertEqual(found[column][row], table[row][column])

    def test_twice_gives_the_table(self):
        for table in many_tables():
            self.assertEqual(turned(turned(table)), table)

    def test_wrong_tables(self):
        check_wrong_tables(self, turned)

    def test_by_name(self):
        self.assertEqual(turned(table=('x.',)), ('x', '.'))


class Part(unittest.TestCase):
    def test_each_place(self):
        rnd = random.Random(7)
        for table in many_tables():
            for _ in range(3):
                rows = tuple(rnd.sample(range(len(table)), rnd.randint(1, len(table))))
                columns = tuple(rnd.sample(range(len(table[0])), rnd.randint(1, len(table[0]))))
                found = part(table, rows, columns)
                self.assertIs(is_table(found), True)
                self.assertEqual(found, in_order_by_hand(table, (rows, columns)))

    def test_whole_one_place_and_all_turned(self):
        self.assertEqual(part(GOOD, (0, 1, 2), (0, 1, 2)), GOOD)
        self.assertEqual(part(GOOD, (1,), (0,)), ('.',))
        self.assertEqual(part(GOOD, (2, 1, 0), (2, 1, 0)), ('xxx', 'xx.', '.xx'))
        self.assertEqual(part(('xx..',), (0,), (3, 0, 2)), ('.x.',))

    def wrong_lines(self):
        wrong = [(), (0, 0), (0, 1, 0), (2, 1, 2), (1, 2, 2), (0, 1, 2, 0), (3,), (0, 3), (0, 1, 3), (-1,),
                 (0, 1, -1), (True,), (0, True), (1, False), (0, 2, True), (0, 1, 10 ** 39), (0, None),
                 (0, '1'), ('0',), ((0,),), (0, (1,)), (0, [1]), (0, {}), [0], [0, 1, 2], {}, {0: 1}, {0: 0, 1: 1},
                 '', '0', '012', 'x', None, True, False, 0, 1, (0, 1, 2, 3), (0, 1, 2, 0, 1, 2)]
        return wrong + wrong_everywhere()

    def test_wrong_rows_wrong_columns_and_both(self):
        for lines in self.wrong_lines():
            before = copy.deepcopy(lines)
            with self.subTest(lines=repr(lines)[:80]):
                for rows, columns in ((lines, (0, 1)), ((2, 0), lines), (lines, lines), (lines, None), ((), lines)):
                    with self.assertRaises(InvalidLines):
                        part(GOOD, rows, columns)
                self.assertEqual(lines, before)

    def test_rows_and_columns_have_their_own_limits(self):
        self.assertEqual(part(('x..x',), (0,), (3,)), ('x',))
        self.assertEqual(part(('x', '.', '.', 'x'), (3,), (0,)), ('x',))
        for table, rows, columns in ((('x..x',), (1,), (0,)), (('x', '.', '.', 'x'), (0,), (1,)),
                                     (('xx', 'xx'), (2,), (0,)), (('xx', 'xx'), (0,), (2,))):
            with self.assertRaises(InvalidLines):
                part(table, rows, columns)

    def test_wrong_tables_come_first(self):
        check_wrong_tables(self, lambda thing: part(thing, (0,), (0,)))
        for lines in self.wrong_lines():
            for rows, columns in ((lines, (0,)), ((0,), lines), (lines, lines)):
                with self.assertRaises(InvalidTable):
                    part(['x'], rows, columns)
                with self.assertRaises(InvalidTable):
                    part(('xx', 'x'), rows, columns)

    def test_by_name(self):
        self.assertEqual(part(columns=(1, 0), table=('x.', '..'), rows=(1, 0)), ('..', '.x'))


class Ticks(unittest.TestCase):
    def test_all_places_ascending(self):
        for table in many_tables():
            wanted = [(row, column) for row in range(len(table)) for column in range(len(table[0]))
                      if has(table, row, column)]
            self.assertEqual(ticks(table), sorted(wanted))

    def test_none(self):
        self.assertEqual(ticks(('.',)), [])
        self.assertEqual(ticks(('........',) * 8), [])

    def test_kinds(self):
        for place in ticks(GOOD):
            self.assertIs(type(place), tuple)

    def test_new(self):
        check_new_lists(self, lambda: ticks(GOOD))
        check_new_lists(self, lambda: ticks(('.',)))

    def test_wrong_tables(self):
        check_wrong_tables(self, ticks)

    def test_by_name(self):
        self.assertEqual(ticks(table=('x',)), [(0, 0)])
