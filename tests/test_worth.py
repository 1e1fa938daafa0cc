import copy
import random
import unittest

from tests.cost_judges import least_by_hand, worth_by_hand
from tests.cost_samples import any_priced, check_again, check_amount_errors, priced, ringless_priced, small_priced
from tests.samples import GOOD, RINGED, small_tables, wrong_everywhere
from tests.test_choices import check_amount_errors_only
from ticklay.errors import InvalidFines, InvalidIndex, InvalidPrices, InvalidTable
from ticklay.worth import in_each, in_some, worth

WRONG_INDEXES = [-1, -3, 3, 4, 8, 10 ** 39, -10 ** 39, True, False, None, '0', '', (0,), [0], {}, {0: 0}, ()]


def some_priced():
    return any_priced()[::3] + ringless_priced()[::11] + small_priced(3)[::2]


class Worth(unittest.TestCase):
    def test_example(self):
        fives = (5, 5, 5)
        self.assertEqual((worth(GOOD, (2, 3, 1), fives, 1), in_some(GOOD, (2, 3, 1), fives),
                          in_each(GOOD, (2, 3, 1), fives), in_each(GOOD, (2, 2, 1), fives)),
                         (3, (0, 1, 2), (), (1,)))

    def test_against_all_choices(self):
        for table, prices, fines in some_priced():
            for column in range(len(prices)):
                self.assertEqual(check_again(self, worth, table, prices, fines, column),
                                 worth_by_hand(table, prices, fines, column), (table, prices, fines, column))

    def test_all_small_tables(self):
        rnd = random.Random(71)
        for table in small_tables(3, 3):
            _, prices, fines = priced(rnd, table, 6)
            for column in range(3):
                self.assertEqual(worth(table, prices, fines, column), worth_by_hand(table, prices, fines, column))

    def test_own_price_does_not_count(self):
        for table, prices, fines in some_priced()[::3]:
            for column in range(len(prices)):
                found = {worth(table, prices[:column] + (price,) + prices[column + 1:], fines, column)
                         for price in (0, 1, 7, 999)}
                self.assertEqual(len(found), 1)

    def test_above_the_greatest_price(self):
        self.assertEqual(worth(('x',) * 8, (0,), (999,) * 8, 0), 7992)
        self.assertEqual(worth(('x',) * 8, (999,), (0,) * 8, 0), 0)
        self.assertEqual(worth(('.',) * 8, (999,), (999,) * 8, 0), 0)

    def test_no_such_column(self):
        for wrong in WRONG_INDEXES + wrong_everywhere():
            if type(wrong) is int and wrong in range(3):
                continue
            before = copy.deepcopy(wrong)
            with self.subTest(column=repr(wrong)[:80]):
                with self.assertRaises(InvalidIndex):
                    worth(GOOD, (1, 2, 3), (4, 5, 6), wrong)
                with self.assertRaises(InvalidFines):
                    worth(GOOD, (1, 2, 3), (4, 5, True), wrong)
                with self.assertRaises(InvalidPrices):
                    worth(GOOD, (1, 2, None), (4, 5, 6), wrong)
                with self.assertRaises(InvalidPrices):
                    worth(GOOD, (1, 2, None), (4, 5, True), wrong)
                with self.assertRaises(InvalidTable):
                    worth(list(GOOD), (1, 2, None), (4, 5, True), wrong)
            self.assertEqual(wrong, before)

    def test_columns_not_rows_are_the_limit(self):
        self.assertEqual(worth(('xxxx',), (9, 9, 9, 9), (5,), 3), 5)
        with self.assertRaises(InvalidIndex):
            worth(('x', 'x', 'x'), (9,), (5, 5, 5), 1)

    def test_errors(self):
        check_amount_errors(self, lambda table, prices, fines: worth(table, prices, fines, 2))
        check_amount_errors_only(self, lambda table, prices, fines: worth(table, prices, fines, 3))

    def test_by_name(self):
        self.assertEqual(worth(column=0, fines=(2,), prices=(3,), table=('x',)), 2)


class InEachAndSome(unittest.TestCase):
    def check_both(self, table, prices, fines):
        choices = least_by_hand(table, prices, fines)[1]
        columns = range(len(prices))
        each = tuple(column for column in columns if all(column in choice for choice in choices))
        some = tuple(column for column in columns if any(column in choice for choice in choices))
        found = (check_again(self, in_each, table, prices, fines), check_again(self, in_some, table, prices, fines))
        self.assertEqual(found, (each, some), (table, prices, fines))

    def test_against_all_choices(self):
        for table, prices, fines in some_priced():
            self.check_both(table, prices, fines)

    def test_all_small_tables(self):
        rnd = random.Random(72)
        for table in small_tables(3, 3):
            self.check_both(*priced(rnd, table, 3))

    def test_none_all_and_free_columns(self):
        self.assertEqual((in_each(RINGED, (9, 9, 9), (1, 1, 1)), in_some(RINGED, (9, 9, 9), (1, 1, 1))), ((), ()))
        self.assertEqual((in_each(RINGED, (1, 1, 1), (9, 9, 9)), in_some(RINGED, (1, 1, 1), (9, 9, 9))),
                         ((), (0, 1, 2)))
        self.assertEqual((in_each(('x.', '.x'), (1, 1), (2, 2)), in_some(('x.', '.x'), (1, 1), (2, 2))),
                         ((0, 1), (0, 1)))
        self.assertEqual((in_each(('..',), (0, 1), (2,)), in_some(('..',), (0, 1), (2,))), ((), (0,)))

    def test_by_price_and_worth(self):
        equal, less = 0, 0
        for table, prices, fines in some_priced():
            each, some = in_each(table, prices, fines), in_some(table, prices, fines)
            for column, price in enumerate(prices):
                told = worth(table, prices, fines, column)
                self.assertEqual(column in some, price <= told, (table, prices, fines, column))
                self.assertEqual(column in each, price < told, (table, prices, fines, column))
                equal += price == told
                less += price < told
        self.assertGreater(equal, 50)
        self.assertGreater(less, 50)

    def test_errors(self):
        check_amount_errors(self, in_each)
        check_amount_errors(self, in_some)

    def test_by_name(self):
        self.assertEqual(in_each(fines=(4,), prices=(3,), table=('x',)), (0,))
        self.assertEqual(in_some(fines=(2,), prices=(3,), table=('x',)), ())
