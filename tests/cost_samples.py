"""Tables with prices and fines that many tests pass, and wrong ones."""

import copy
import random

from tests.cost_judges import judge_amounts
from tests.samples import (check_wrong_tables, many_tables, put_within, ring_alone, road_table, shuffled, some_table,
                           squareless_table, wrong_everywhere)
from ticklay.errors import InvalidFines, InvalidPrices, InvalidTable

# Two rows and three columns: prices are never taken for fines here.
TABLE, PRICES, FINES = ('xx.', '.xx'), (2, 0, 999), (5, 999)


def some_amounts(rnd, count, most):
    """Return prices, or fines, among them zeros and equal ones."""
    return tuple(rnd.choice((0, 1, most, rnd.randint(0, most), rnd.randint(0, most))) for _ in range(count))


def priced(rnd, table, most):
    return table, some_amounts(rnd, len(table[0]), most), some_amounts(rnd, len(table), most)


def small_priced(most):
    """Return tables of up to four rows and four columns, with rings and without, with prices and fines up to most."""
    rnd = random.Random(31)
    found = []
    for height in range(1, 5):
        for width in range(1, 5):
            for share in (0.3, 0.5, 0.7):
                found += [priced(rnd, some_table(rnd, height, width, share), most) for _ in range(3)]
    return found + ringed_priced(rnd, most)


def ringed_priced(rnd, most):
    """Return tables of three and four rows, each with a ring, with prices and fines up to most."""
    found = []
    for many, height in ((3, 3), (3, 4), (4, 4)):
        for width in (many, 4, 5, 8):
            for share in (0, 0.5, 1):
                table = shuffled(rnd, put_within(rnd, ring_alone(many), height, width, share))
                found += [priced(rnd, table, most), (table, (1,) * width, (2,) * height),
                          (table, (most,) * width, (most,) * height)]
    return found


def ringless_priced():
    """Return tables without a ring, of all sizes, with prices and fines of all sizes."""
    rnd = random.Random(32)
    found = []
    for height in range(1, 9):
        for width in range(1, 9):
            for share in (0.2, 0.4, 0.6):
                found.append(priced(rnd, squareless_table(rnd, height, width, share), rnd.choice((1, 4, 30, 999))))
            found.append(priced(rnd, road_table(rnd, height, width), rnd.choice((4, 999))))
            found.append((road_table(rnd, height, width), (999,) * width, (999,) * height))
            found.append((squareless_table(rnd, height, width, 0.3), (1,) * width, (1,) * height))
    return found


def any_priced():
    """Return tables of all sizes, with rings and without, with prices and fines of all sizes."""
    rnd = random.Random(33)
    tables = many_tables()
    tables = rnd.sample(tables, 150) + [('x' * 8,) * 8, ('.' * 8,) * 8, ring_alone(8), ('x',), ('.',)]
    return [priced(rnd, table, rnd.choice((1, 3, 50, 999))) for table in tables]


def wrong_amounts(good):
    """Return things that are no prices, or fines, of as many columns, or rows, as good ones."""
    things = wrong_everywhere() + ['', 'x', '012', (), good + (0,), good[:-1], good[1:], list(good), set(good)]
    things += [(good,), good * 2, dict(enumerate(good)), tuple([amount] for amount in good), good + (None,)]
    for wrong in (1000, -1, True, False, None, 10 ** 39, -10 ** 39, '5', '', (5,), [5], {}, {5: 5}):
        things += [good[:-1] + (wrong,), (wrong,) + good[1:], (wrong,) * len(good)]
    return [thing for thing in things if not judge_amounts(thing, len(good))]


def check_amount_errors(test, call):
    """Check the errors of a call of a table, prices and fines: each by itself, and the first of several."""
    call(TABLE, PRICES, FINES)
    for wrong in wrong_amounts(PRICES):
        before = copy.deepcopy(wrong)
        with test.subTest(prices=repr(wrong)[:80]):
            for fines in (FINES, PRICES, None, FINES[:-1] + (1000,)):
                with test.assertRaises(InvalidPrices):
                    call(TABLE, wrong, fines)
            with test.assertRaises(InvalidTable):
                call(list(TABLE), wrong, FINES)
        test.assertEqual(wrong, before)
    for wrong in wrong_amounts(FINES):
        before = copy.deepcopy(wrong)
        with test.subTest(fines=repr(wrong)[:80]):
            with test.assertRaises(InvalidFines):
                call(TABLE, PRICES, wrong)
            with test.assertRaises(InvalidPrices):
                call(TABLE, PRICES[:-1] + (-1,), wrong)
            for prices in (PRICES, wrong, None):
                with test.assertRaises(InvalidTable):
                    call(TABLE[:1] + ('.xX',), prices, wrong)
        test.assertEqual(wrong, before)
    check_wrong_tables(test, lambda thing: call(thing, PRICES, FINES))
    check_wrong_tables(test, lambda thing: call(thing, PRICES, None))
    check_errors_of_great_tables(test, call)


def check_errors_of_great_tables(test, call):
    """Check the errors where a ring, great prices and many rows leave no other promise."""
    for table in (ring_alone(5), ring_alone(8), ('xxx', 'xx.', 'x.x', '.xx', 'xxx')):
        prices, fines = (999,) * len(table[0]), (999,) * len(table)
        for wrong in (1000, -1, True, None):
            for wrong_prices in (prices[:-1] + (wrong,), (wrong,) + prices[1:]):
                with test.assertRaises(InvalidPrices):
                    call(table, wrong_prices, fines)
                for wrong_fines in (fines[:-1] + (wrong,), (wrong,) + fines[1:]):
                    with test.assertRaises(InvalidFines):
                        call(table, prices, wrong_fines)
                    with test.assertRaises(InvalidPrices):
                        call(table, wrong_prices, wrong_fines)
                    with test.assertRaises(InvalidTable):
                        call(table + ('x',), wrong_prices, wrong_fines)


def check_again(test, call, *arguments):
    """Check that a call leaves what it is passed, and gives the same when it is asked again; return what it gives."""
    before = copy.deepcopy(arguments)
    first = call(*arguments)
    test.assertEqual(arguments, before)
    again = call(*copy.deepcopy(arguments))
    test.assertEqual((first, type(first)), (again, type(again)))
    return first
