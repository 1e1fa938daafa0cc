import copy
import random
import unittest

from tests.cost_judges import choices_by_hand, cost_by_hand, judge_choice, judge_weights, weights_by_hand, worth_by_hand
from tests.cost_samples import (FINES, PRICES, TABLE, any_priced, check_again, check_amount_errors, priced,
                                ringless_priced, small_priced)
from tests.samples import GOOD, RINGED, NEAR_PARTS, near_tuples, ring_alone, small_tables, wrong_everywhere
from tests.test_choices import check_amount_errors_only
from tests.test_worth import WRONG_INDEXES
from ticklay.cheapest import cheapest
from ticklay.dues import is_worth_paper, worth_paper
from ticklay.errors import HasRing, InvalidFines, InvalidIndex, InvalidPrices, InvalidTable
from ticklay.rings import ring
from ticklay.worth import in_each, in_some, worth

PAPER = (3, (1,), (0, 2), (2, 1, 0))


def judge_worth_paper(table, prices, fines, column, thing):
    """Whether a thing is a worth paper of a column, by the words of point 25."""
    if type(thing) is not tuple or len(thing) != 4:
        return False
    number, choice, other, weights = thing
    if type(number) is not int or number < 0:
        return False
    due = prices[:column] + (number,) + prices[column + 1:]
    if not judge_choice(table, choice) or not judge_choice(table, other):
        return False
    if not judge_weights(table, due, fines, weights):
        return False
    if column not in choice or column in other:
        return False
    return {cost_by_hand(table, due, fines, choice), cost_by_hand(table, due, fines, other)} == {sum(weights)}


def some_ringless():
    """Tables without a ring, with prices and fines, among them 0 and 999, and columns that no row has."""
    rnd = random.Random(171)
    found = ringless_priced()[::4]
    for table, _, _ in ringless_priced()[::13]:
        found += [(table, (0,) * len(table[0]), priced(rnd, table, 999)[2]),
                  (table, (999,) * len(table[0]), (999,) * len(table)),
                  (table, priced(rnd, table, 999)[1], (0,) * len(table))]
    return found


def ringed_worth_papers():
    """Tables with a ring and worth papers of theirs, found by trying all choices and all weights."""
    found = []
    fours = [(ring_alone(4), (1,) * 4, (2,) * 4), (ring_alone(4), (3,) * 4, (2,) * 4)]
    for table, prices, fines in small_priced(3) + fours:
        if ring(table) is None or len(prices) > 5:
            continue
        for column in (0, 1):
            number = worth_by_hand(table, prices, fines, column)
            due = prices[:column] + (number,) + prices[column + 1:]
            weights = max(weights_by_hand(table, due, fines), key=sum)
            costs = [(cost_by_hand(table, due, fines, choice), choice) for choice in choices_by_hand(len(due))]
            having = min(pair for pair in costs if column in pair[1])
            lacking = min(pair for pair in costs if column not in pair[1])
            found.append((table, prices, fines, column, (number, having[1], lacking[1], weights)))
    return found


class WorthPaper(unittest.TestCase):
    def check_paper(self, table, prices, fines, column):
        told = (table, prices, fines, column)
        found = check_again(self, worth_paper, table, prices, fines, column)
        self.assertTrue(judge_worth_paper(table, prices, fines, column, found), told)
        self.assertEqual(found[0], worth_by_hand(table, prices, fines, column), told)
        self.assertEqual(found[0], worth(table, prices, fines, column), told)
        self.assertIs(check_again(self, is_worth_paper, table, prices, fines, column, found), True)
        return found

    def test_example(self):
        fives = (5, 5, 5)
        self.assertEqual((worth_paper(GOOD, (2, 9, 1), fives, 1)[0], is_worth_paper(GOOD, (2, 9, 1), fives, 1, PAPER)),
                         (3, True))

    def test_tables_without_a_ring(self):
        for table, prices, fines in some_ringless():
            for column in range(len(prices)):
                self.check_paper(table, prices, fines, column)

    def test_all_small_tables(self):
        rnd = random.Random(172)
        for table in small_tables(3, 3):
            if ring(table) is None:
                _, prices, fines = priced(rnd, table, 9)
                self.check_paper(table, prices, fines, rnd.randrange(3))

    def test_numbers_above_the_greatest_price(self):
        found = self.check_paper(('x',) * 8, (0,), (999,) * 8, 0)
        self.assertEqual(found, (7992, (0,), (), (999,) * 8))
        self.assertEqual(self.check_paper(('x.', 'xx'), (3, 999), (999, 999), 0)[0], 1998)
        self.assertEqual(self.check_paper(('x.', 'xx'), (999, 500), (999, 999), 0)[0], 1499)

    def test_a_column_that_no_row_has(self):
        for prices in ((5, 9), (0, 0), (999, 999)):
            found = self.check_paper(('.x', '..'), prices, (7, 8), 0)
            self.assertEqual(found[0], 0)
            self.assertIn(0, found[1])
        self.assertEqual(self.check_paper(('.',), (999,), (999,), 0), (0, (0,), (), (999,)))

    def test_its_own_price_does_not_count(self):
        for table, prices, fines in some_ringless()[::9]:
            for column in range(len(prices)):
                found = worth_paper(table, prices, fines, column)
                for price in (0, 1, 999):
                    due = prices[:column] + (price,) + prices[column + 1:]
                    self.assertEqual(worth_paper(table, due, fines, column)[0], found[0])
                    self.assertIs(is_worth_paper(table, due, fines, column, found), True)

    def test_with_the_number_as_the_price(self):
        for table, prices, fines in some_ringless()[::5]:
            for column in range(len(prices)):
                number, choice, other, weights = worth_paper(table, prices, fines, column)
                if number <= 999:
                    due = prices[:column] + (number,) + prices[column + 1:]
                    self.assertEqual(cheapest(table, due, fines)[0], sum(weights))
                    self.assertIn(column, in_some(table, due, fines))
                    self.assertNotIn(column, in_each(table, due, fines))

    def test_tables_with_a_ring_behind_the_other_errors(self):
        met = 0
        for table, prices, fines in any_priced()[::2] + small_priced(4)[::2]:
            if ring(table) is None:
                continue
            met += 1
            for column in range(len(prices)):
                self.assertRaises(HasRing, worth_paper, table, prices, fines, column)
            for wrong in (len(prices), -1, True, None):
                self.assertRaises(InvalidIndex, worth_paper, table, prices, fines, wrong)
                self.assertRaises(InvalidFines, worth_paper, table, prices, fines[:-1] + (True,), wrong)
                self.assertRaises(InvalidPrices, worth_paper, table, prices[:-1] + (1000,), fines[1:], wrong)
                self.assertRaises(InvalidTable, worth_paper, table + ('no',), prices[1:], fines[1:], wrong)
        self.assertGreater(met, 30)

    def test_a_ring_with_a_worth_paper_has_none_here(self):
        table, ones, twos = ring_alone(4), (1,) * 4, (2,) * 4
        self.assertRaises(HasRing, worth_paper, table, ones, twos, 0)
        self.assertIs(is_worth_paper(table, ones, twos, 0, (1, (0, 2), (1, 3), (1, 0, 1, 0))), True)


class IsWorthPaper(unittest.TestCase):
    def check_thing(self, table, prices, fines, column, thing):
        before = copy.deepcopy(thing)
        with self.subTest(thing=repr(thing)[:80]):
            found = is_worth_paper(table, prices, fines, column, thing)
            self.assertIs(found, judge_worth_paper(table, prices, fines, column, thing), (table, prices, fines, column))
        self.assertEqual(thing, before)

    def near_things(self, good, column, width):
        number, choice, other, weights = good
        things = near_tuples(good) + [(number, other, choice, weights), (weights, choice, other, number)]
        for more in (number + 1, number - 1, number + 1000, -number, 10 ** 39, -1, 1, 0, True, False, None):
            things.append((more, choice, other, weights))
        lots = near_tuples(choice) + near_tuples(other)
        for at in range(width):
            for lot in (choice, other):
                lots += [tuple(sorted(set(lot) ^ {at})), tuple(sorted(set(lot) | {at})), tuple(sorted(set(lot) - {at}))]
        for lot in lots:
            things += [(number, lot, other, weights), (number, choice, lot, weights), (number, lot, lot, weights)]
        for lot in near_tuples(weights):
            things.append((number, choice, other, lot))
        for at in range(len(weights)):
            for more in (1, -1, 1000):
                lot = weights[:at] + (weights[at] + more,) + weights[at + 1:]
                things += [(number, choice, other, lot), (number + more, choice, other, lot)]
        return things + [good + (weights,), good + ((),), good[1:], good[:3], (good,), list(good),
                         (number, (choice, other), weights)]

    def test_near_things(self):
        rnd = random.Random(173)
        for table, prices, fines in rnd.sample(some_ringless(), 60):
            column = rnd.randrange(len(prices))
            good = worth_paper(table, prices, fines, column)
            for thing in self.near_things(good, column, len(prices)):
                self.check_thing(table, prices, fines, column, thing)

    def test_tables_with_a_ring(self):
        papers = ringed_worth_papers()
        told = [is_worth_paper(table, prices, fines, column, thing) for table, prices, fines, column, thing in papers]
        # Of a column of a table with a ring there may be a worth paper, or none.
        self.assertGreater(told.count(True), 20)
        self.assertGreater(told.count(False), 20)
        for table, prices, fines, column, thing in papers[::3]:
            for near in self.near_things(thing, column, len(prices)) + [thing]:
                self.check_thing(table, prices, fines, column, near)

    def test_worth_papers_of_other_columns(self):
        right = 0
        for table, prices, fines in some_ringless()[::3]:
            found = [worth_paper(table, prices, fines, column) for column in range(len(prices))]
            for column in range(len(prices)):
                for thing in found:
                    self.check_thing(table, prices, fines, column, thing)
                    right += is_worth_paper(table, prices, fines, column, thing)
        self.assertGreater(right, 100)

    def test_small_papers_tried_one_by_one(self):
        rnd = random.Random(174)
        for table in rnd.sample(small_tables(2, 2), 8) + [('x', 'x'), ('xx',), ('.x', 'xx')]:
            _, prices, fines = priced(rnd, table, 2)
            width = len(prices)
            met = 0
            for column in range(width):
                for number in range(5):
                    for choice in choices_by_hand(width):
                        for other in choices_by_hand(width):
                            for weights in weights_by_hand(table, (9,) * width, fines):
                                thing = (number, choice, other, weights)
                                judged = judge_worth_paper(table, prices, fines, column, thing)
                                self.assertIs(is_worth_paper(table, prices, fines, column, thing), judged)
                                if judged:
                                    met += 1
                                    self.assertEqual(number, worth(table, prices, fines, column))
            self.assertGreater(met, 0)

    def test_numbers_above_the_greatest_price(self):
        table, prices, fines = ('x',) * 8, (0,), (999,) * 8
        self.assertIs(is_worth_paper(table, prices, fines, 0, (7992, (0,), (), (999,) * 8)), True)
        for number in (7991, 7993, 999, 1000, 10 ** 39):
            self.assertIs(is_worth_paper(table, prices, fines, 0, (number, (0,), (), (999,) * 8)), False)
        self.assertIs(is_worth_paper(table, prices, fines, 0, (7992, (0,), (), (999,) * 7 + (1000,))), False)
        # The weight is at most the number, but above the fine.
        self.assertIs(is_worth_paper(('x',), (5,), (3,), 0, (4, (0,), (), (4,))), False)

    def test_wrong_things(self):
        things = wrong_everywhere() + ['', 'x', 3, (), GOOD, PAPER[1:], [PAPER], (PAPER,), {0: PAPER}]
        things += [(part,) * 4 for part in NEAR_PARTS] + [(3, (1,), (0, 2), part) for part in NEAR_PARTS]
        for thing in things + near_tuples(PAPER):
            self.check_thing(GOOD, (2, 9, 1), (5, 5, 5), 1, thing)

    def test_by_name(self):
        self.assertEqual(worth_paper(column=0, fines=(2,), prices=(3,), table=('x',)), (2, (0,), (), (2,)))
        self.assertIs(is_worth_paper(thing=(2, (0,), (), (2,)), column=0, fines=(2,), prices=(3,), table=('x',)), True)


class Errors(unittest.TestCase):
    def test_no_such_column(self):
        for wrong in WRONG_INDEXES + wrong_everywhere():
            if type(wrong) is int and wrong in range(3):
                continue
            before = copy.deepcopy(wrong)
            for call in (worth_paper, lambda *told: is_worth_paper(*told, PAPER),
                         lambda *told: is_worth_paper(*told, None)):
                with self.subTest(column=repr(wrong)[:80]):
                    self.assertRaises(InvalidIndex, call, GOOD, (1, 2, 3), (4, 5, 6), wrong)
                    self.assertRaises(InvalidFines, call, GOOD, (1, 2, 3), (4, 5, True), wrong)
                    self.assertRaises(InvalidPrices, call, GOOD, (1, 2, None), (4, 5, True), wrong)
                    self.assertRaises(InvalidTable, call, list(GOOD), (1, 2, None), (4, 5, True), wrong)
            self.assertEqual(wrong, before)

    def test_columns_not_rows_are_the_limit(self):
        self.assertEqual(worth_paper(('xxxx',), (9, 9, 9, 9), (5,), 3)[0], 5)
        self.assertRaises(InvalidIndex, worth_paper, ('x', 'x', 'x'), (9,), (5, 5, 5), 1)
        self.assertRaises(InvalidIndex, is_worth_paper, ('x', 'x', 'x'), (9,), (5, 5, 5), 1, None)

    def test_amounts(self):
        found = worth_paper(TABLE, PRICES, FINES, 2)
        self.assertTrue(judge_worth_paper(TABLE, PRICES, FINES, 2, found))
        check_amount_errors(self, lambda *told: worth_paper(*told, 2))
        for thing in (found, None):
            check_amount_errors(self, lambda *told: is_worth_paper(*told, 2, thing))
        # A wrong column comes behind wrong amounts.
        check_amount_errors_only(self, lambda *told: worth_paper(*told, 3))
        check_amount_errors_only(self, lambda *told: is_worth_paper(*told, None, found))

    def test_ring_is_the_last_error(self):
        for wrong in (None, True, 3, -1):
            self.assertRaises(InvalidIndex, worth_paper, RINGED, (1, 1, 1), (2, 2, 2), wrong)
        self.assertRaises(InvalidFines, worth_paper, RINGED, (1, 1, 1), (2, 2), None)
        self.assertRaises(InvalidPrices, worth_paper, RINGED, (1, 1), (2, 2), None)
        self.assertRaises(HasRing, worth_paper, RINGED, (1, 1, 1), (2, 2, 2), 0)
