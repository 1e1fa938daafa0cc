import copy
import random
import unittest

from tests.cost_samples import check_again
from tests.judges import all_orders, in_order_by_hand, judge_order
from tests.samples import (GOOD, RINGED, check_wrong_tables, many_tables, near_orders, ring_alone, shuffled,
                           small_tables, some_table, wrong_everywhere)
from ticklay.alike import are_alike, is_match, match_of
from ticklay.errors import InvalidTable
from ticklay.tables import turned


def judge_match(table, other, thing):
    return judge_order(table, thing) and in_order_by_hand(table, thing) == other


def changed(rnd, table):
    """Return a table with one sign changed."""
    row, column = rnd.randrange(len(table)), rnd.randrange(len(table[0]))
    sign = '.' if table[row][column] == 'x' else 'x'
    return table[:row] + (table[row][:column] + sign + table[row][column + 1:],) + table[row + 1:]


class Alike(unittest.TestCase):
    def check_alike(self, table, other, told):
        found = check_again(self, match_of, table, other)
        if told:
            self.assertTrue(judge_match(table, other, found), (table, other, found))
        else:
            self.assertIsNone(found, (table, other))
        self.assertIs(check_again(self, are_alike, table, other), told, (table, other))

    def test_example(self):
        self.assertEqual((are_alike(('xx.', '..x'), ('.xx', 'x..')),
                          is_match(('xx.', '..x'), ('.xx', 'x..'), ((0, 1), (2, 0, 1))), match_of(GOOD, RINGED)),
                         (True, True, None))

    def test_against_all_orders(self):
        rnd = random.Random(101)
        pairs = [(table, other) for table in small_tables(2, 2) for other in small_tables(2, 2)]
        for height, width in ((2, 3), (3, 2), (3, 3), (1, 4), (4, 1)):
            tables = small_tables(height, width)
            pairs += [(rnd.choice(tables), rnd.choice(tables)) for _ in range(150)]
        alike = 0
        for table, other in pairs:
            told = any(in_order_by_hand(table, order) == other for order in all_orders(table))
            self.check_alike(table, other, told)
            alike += told
        self.assertGreater(alike, 100)

    def test_as_many_ticks_but_not_alike(self):
        rnd = random.Random(102)
        apart = 0
        for _ in range(150):
            signs = list('xxxxx....')
            rnd.shuffle(signs)
            table = tuple(''.join(signs[at:at + 3]) for at in (0, 3, 6))
            rnd.shuffle(signs)
            other = tuple(''.join(signs[at:at + 3]) for at in (0, 3, 6))
            told = any(in_order_by_hand(table, order) == other for order in all_orders(table))
            self.check_alike(table, other, told)
            apart += not told
        self.assertGreater(apart, 50)

    def test_other_orders_of_greater_tables(self):
        rnd = random.Random(103)
        for height in range(1, 6):
            for width in range(1, 9):
                for share in (0, 0.3, 0.6, 1):
                    table = some_table(rnd, height, width, share)
                    self.check_alike(table, shuffled(rnd, table), True)
                    self.check_alike(table, table, True)

    def test_one_sign_changed(self):
        rnd = random.Random(104)
        for height in range(1, 6):
            for width in range(1, 9):
                table = some_table(rnd, height, width, 0.5)
                # The number of ticks is not the same any more.
                self.check_alike(table, shuffled(rnd, changed(rnd, table)), False)

    def test_same_counts_in_rows_and_columns(self):
        # Each row and each column has two ticks here: two rounds of one kind, and one of another.
        five = ring_alone(5)
        parted = tuple(row + '..' for row in ring_alone(3)) + ('...xx', '...xx')
        rnd = random.Random(105)
        self.check_alike(five, shuffled(rnd, parted), False)
        self.check_alike(parted, shuffled(rnd, five), False)
        self.check_alike(parted, shuffled(rnd, parted), True)
        self.check_alike(five, shuffled(rnd, five), True)

    def test_equal_rows_and_equal_columns(self):
        self.check_alike(('xx', 'xx', '..'), ('xx', '..', 'xx'), True)
        self.check_alike(('xx', 'xx', '..'), ('xx', '..', '..'), False)
        self.check_alike(('xxx.', 'xxx.', 'xxx.'), ('x.xx', 'x.xx', 'x.xx'), True)
        self.check_alike(('xxx.', 'xxx.', 'xxx.'), ('x.xx', 'x.xx', 'xx.x'), False)
        self.check_alike(('x..x', '.xx.'), ('xx..', '..xx'), True)
        self.check_alike(('x..x', '.xx.'), ('xx..', '.xx.'), False)

    def test_turned_and_other_sizes(self):
        self.check_alike(('xx', '..'), turned(('xx', '..')), False)
        self.check_alike(RINGED, turned(RINGED), True)
        self.check_alike(('xx',), ('x', 'x'), False)
        self.check_alike(('..', '..'), ('..',), False)
        self.check_alike(('..',), ('..', '..'), False)
        self.check_alike(('..',), ('...',), False)
        self.check_alike(('...',), ('..',), False)
        self.check_alike(('xx.', '.xx'), ('xx', '.x', 'x.'), False)
        self.check_alike(GOOD, GOOD + ('...',), False)
        self.check_alike(GOOD, tuple(row + '.' for row in GOOD), False)

    def test_the_order_is_one_of_the_first_table(self):
        table, other = ('x..', '.xx'), ('..x', 'xx.')
        found = match_of(table, other)
        self.assertEqual(in_order_by_hand(table, found), other)
        rnd = random.Random(106)
        for _ in range(60):
            table = some_table(rnd, 4, 5, 0.4)
            other = shuffled(rnd, table)
            self.assertEqual(in_order_by_hand(table, match_of(table, other)), other)
            self.assertEqual(in_order_by_hand(other, match_of(other, table)), table)

    def test_kinds(self):
        found = match_of(GOOD, GOOD)
        self.assertEqual([type(found), type(found[0]), type(found[1])], [tuple] * 3)

    def test_by_name(self):
        self.assertEqual(match_of(other=('x',), table=('x',)), ((0,), (0,)))
        self.assertIs(are_alike(other=('x',), table=('x',)), True)
        self.assertIs(is_match(thing=((0,), (0,)), other=('x',), table=('x',)), True)


class IsMatch(unittest.TestCase):
    def test_all_orders_of_small_tables(self):
        rnd = random.Random(107)
        for height, width in ((1, 1), (2, 2), (2, 3), (3, 2), (3, 3), (2, 4)):
            for _ in range(12):
                table = some_table(rnd, height, width, 0.5)
                for other in (shuffled(rnd, table), changed(rnd, table), some_table(rnd, height, width, 0.5),
                              some_table(rnd, width, height, 0.5), table[:-1] or ('.',), turned(table)):
                    for order in all_orders(table):
                        self.assertIs(is_match(table, other, order), judge_match(table, other, order))

    def test_near_things_for_tables_of_all_sizes(self):
        rnd = random.Random(108)
        for table in rnd.sample(many_tables(), 60) + [some_table(rnd, 8, 8, 0.5), ('x' * 8,) * 8]:
            rows, columns = list(range(len(table))), list(range(len(table[0])))
            rnd.shuffle(rows)
            rnd.shuffle(columns)
            order = (tuple(rows), tuple(columns))
            other = in_order_by_hand(table, order)
            self.assertIs(is_match(table, other, order), True)
            self.assertIs(is_match(table, changed(rnd, other), order), False)
            self.assertIs(is_match(table, table, (tuple(range(len(rows))), tuple(range(len(columns))))), True)
            for thing in near_orders(order):
                self.assertIs(check_again(self, is_match, table, other, thing), judge_match(table, other, thing))

    def test_an_order_of_the_first_table_not_of_the_other_one(self):
        self.assertIs(is_match(('x..', '.xx'), ('..x', 'xx.'), ((0, 1), (1, 2, 0))), True)
        self.assertIs(is_match(('..x', 'xx.'), ('x..', '.xx'), ((0, 1), (1, 2, 0))), False)
        self.assertIs(is_match(('..x', 'xx.'), ('x..', '.xx'), ((0, 1), (2, 0, 1))), True)

    def test_a_part_is_no_order(self):
        self.assertIs(is_match(GOOD, GOOD[:2], ((0, 1), (0, 1, 2))), False)
        self.assertIs(is_match(GOOD[:2], GOOD, ((0, 1, 1), (0, 1, 2))), False)
        self.assertIs(is_match(('xx',), ('x',), ((0,), (0,))), False)

    def test_wrong_things(self):
        for thing in wrong_everywhere() + ['', 'xx', GOOD, RINGED, (), ((0, 1, 2), 'xxx'), [(0, 1, 2), (0, 1, 2)]]:
            before = copy.deepcopy(thing)
            self.assertIs(is_match(GOOD, GOOD, thing), False)
            self.assertIs(is_match(GOOD, RINGED, thing), False)
            self.assertEqual(thing, before)


class WrongTables(unittest.TestCase):
    def test_first_other_and_both(self):
        for call in (match_of, are_alike, lambda table, other: is_match(table, other, ((0,), (0,))),
                     lambda table, other: is_match(table, other, None)):
            check_wrong_tables(self, lambda thing: call(thing, ('x',)))
            check_wrong_tables(self, lambda thing: call(('x',), thing))
            check_wrong_tables(self, lambda thing: call(thing, thing))
            check_wrong_tables(self, lambda thing: call(('x' * 8,) * 8, thing))

    def test_first_other_and_both_of_great_tables(self):
        great = ring_alone(8)
        for call in (match_of, are_alike):
            for table, other in ((great, great + ('x' * 8,)), (list(great), great), (great[:7] + ('x',), great),
                                 (great, great[:7] + ('xxxxxxx ',)), (list(great), list(great))):
                with self.assertRaises(InvalidTable):
                    call(table, other)
