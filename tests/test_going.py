import random
import unittest

from tests.cost_judges import go_by_hand, judge_paper
from tests.cost_samples import FINES, PRICES, TABLE, check_again, check_amount_errors, priced, ringless_priced
from tests.judges import all_orders, in_order_by_hand, judge_arrangement
from tests.samples import GOOD, RINGED, near_orders, ring_alone, small_tables, squareless_table, wrong_everywhere
from tests.test_choices import check_amount_errors_only
from ticklay.arrangements import arrangement
from ticklay.errors import InvalidArrangement, InvalidFines, InvalidPrices, InvalidTable
from ticklay.going import go


def other_arrangement(rnd, table):
    """Return an arrangement that is found in a table in another order."""
    rows, columns = list(range(len(table))), list(range(len(table[0])))
    rnd.shuffle(rows)
    rnd.shuffle(columns)
    found = arrangement(in_order_by_hand(table, (rows, columns)))
    return tuple(rows[at] for at in found[0]), tuple(columns[at] for at in found[1])


class Go(unittest.TestCase):
    def check_go(self, table, prices, fines, order):
        found = check_again(self, go, table, prices, fines, order)
        self.assertEqual(found, go_by_hand(table, prices, fines, order), (table, prices, fines, order))
        self.assertTrue(judge_paper(table, prices, fines, found), (table, prices, fines, order))
        return found

    def test_example(self):
        order = ((0, 1, 2), (0, 1, 2))
        self.assertEqual((go(GOOD, (2, 3, 1), (5, 5, 5), order), go(GOOD, (2, 3, 1), (1, 5, 5), order)),
                         (((0, 2), (2, 1, 0)), ((2,), (1, 1, 0))))

    def test_every_arrangement_of_small_tables(self):
        rnd = random.Random(51)
        more = 0
        for table in rnd.sample(small_tables(3, 3), 120) + small_tables(2, 2) + small_tables(1, 3) + small_tables(3, 1):
            orders = [order for order in all_orders(table) if judge_arrangement(table, order)]
            for most in (1, 5, 999):
                _, prices, fines = priced(rnd, table, most)
                found = {self.check_go(table, prices, fines, order) for order in orders}
                more += len(found) > 1
        # Other arrangements do give other papers, so the order that is passed counts.
        self.assertGreater(more, 50)

    def test_some_arrangements_of_all_tables(self):
        rnd = random.Random(52)
        for table, prices, fines in ringless_priced():
            orders = {other_arrangement(rnd, table) for _ in range(3)} | {arrangement(table)}
            for order in orders:
                self.check_go(table, prices, fines, order)

    def test_rows_get_their_weights_in_the_order(self):
        table, prices, fines = ('x', 'x'), (3,), (2, 2)
        self.assertEqual(go(table, prices, fines, ((0, 1), (0,))), ((0,), (2, 1)))
        self.assertEqual(go(table, prices, fines, ((1, 0), (0,))), ((0,), (1, 2)))

    def test_columns_are_tried_from_the_last_one(self):
        self.assertEqual(go(('xx',), (3, 3), (9,), ((0,), (0, 1))), ((1,), (3,)))
        self.assertEqual(go(('xx',), (3, 3), (9,), ((0,), (1, 0))), ((0,), (3,)))

    def test_rows_without_a_column(self):
        self.assertEqual(go(('..', 'x.'), (4, 0), (7, 9), ((0, 1), (0, 1))), ((0, 1), (7, 4)))
        self.assertEqual(go(('.',), (5,), (999,), ((0,), (0,))), ((), (999,)))
        self.assertEqual(go(('.',), (0,), (999,), ((0,), (0,))), ((0,), (999,)))

    def test_prices_and_fines_of_zero(self):
        rnd = random.Random(53)
        for _ in range(40):
            table = squareless_table(rnd, rnd.randint(1, 8), rnd.randint(1, 8), 0.4)
            order = arrangement(table)
            _, prices, fines = priced(rnd, table, 9)
            none = (0,) * len(prices)
            choice, weights = self.check_go(table, none, fines, order)
            self.assertEqual(choice, tuple(range(len(prices))))
            self.assertEqual(weights, tuple(0 if 'x' in row else fine for row, fine in zip(table, fines)))
            choice, weights = self.check_go(table, prices, (0,) * len(fines), order)
            self.assertEqual(choice, tuple(column for column in range(len(prices)) if prices[column] == 0))
            self.assertEqual(weights, (0,) * len(fines))
            self.check_go(table, none, (0,) * len(fines), order)

    def test_rows_of_weight_zero_bar_no_column(self):
        # The second row has both columns, but gets nothing, so both may be chosen.
        self.assertEqual(go(('x.', 'xx', '.x'), (2, 2), (9, 0, 9), ((0, 1, 2), (0, 1))), ((0, 1), (2, 0, 2)))

    def test_no_arrangements(self):
        with self.assertRaises(InvalidArrangement):
            go(('xx', 'x.'), (1, 1), (1, 1), ((0, 1), (0, 1)))
        for table in (RINGED, ring_alone(4), ring_alone(8)):
            order = tuple(range(len(table)))
            with self.assertRaises(InvalidArrangement):
                go(table, (1,) * len(table), (1,) * len(table), (order, order))
        for table in small_tables(2, 3):
            for order in all_orders(table):
                if not judge_arrangement(table, order):
                    with self.assertRaises(InvalidArrangement):
                        go(table, (1, 1, 1), (1, 1), order)

    def test_arrangements_of_other_tables(self):
        order = ((0, 1, 2), (0, 1, 2))
        for table in (('xx', '.x'), ('xxx', '.xx'), ('xx', '.x', 'xx'), ('xx..', '.xx.', 'xxx.'), GOOD + ('...',)):
            with self.assertRaises(InvalidArrangement):
                go(table, (1,) * len(table[0]), (1,) * len(table), order)

    def test_near_and_wrong_things(self):
        rnd = random.Random(54)
        for height, width in ((1, 1), (2, 3), (3, 2), (8, 8), (1, 8), (8, 1)):
            table = squareless_table(rnd, height, width, 0.4)
            _, prices, fines = priced(rnd, table, 20)
            for thing in near_orders(arrangement(table)) + wrong_everywhere() + ['', 'xx', table]:
                if judge_arrangement(table, thing):
                    self.check_go(table, prices, fines, thing)
                    continue
                with self.subTest(thing=repr(thing)[:80]):
                    with self.assertRaises(InvalidArrangement):
                        go(table, prices, fines, thing)
                    with self.assertRaises(InvalidFines):
                        go(table, prices, fines[:-1] + (-1,), thing)
                    with self.assertRaises(InvalidPrices):
                        go(table, prices[:-1] + (1000,), fines, thing)
                    with self.assertRaises(InvalidPrices):
                        go(table, list(prices), list(fines), thing)
                    with self.assertRaises(InvalidTable):
                        go(list(table), list(prices), list(fines), thing)

    def test_errors(self):
        order = ((0, 1), (0, 1, 2))
        self.assertTrue(judge_paper(TABLE, PRICES, FINES, go(TABLE, PRICES, FINES, order)))
        check_amount_errors(self, lambda table, prices, fines: go(table, prices, fines, order))
        check_amount_errors_only(self, lambda table, prices, fines: go(table, prices, fines, None))

    def test_by_name(self):
        self.assertEqual(go(arrangement=((0,), (0,)), fines=(2,), prices=(3,), table=('x',)), ((), (2,)))
