import copy
import random
import unittest

from tests.cost_judges import choices_by_hand, cost_by_hand, judge_paper, judge_weights, weights_by_hand
from tests.cost_samples import (FINES, PRICES, TABLE, any_priced, check_again, check_amount_errors, priced,
                                ringless_priced, small_priced, wrong_amounts)
from tests.samples import GOOD, RINGED, check_wrong_tables, small_tables, wrong_everywhere
from tests.test_nests import WRONG_COLUMNS
from ticklay.choices import are_weights, cost, is_paper
from ticklay.cheapest import paper
from ticklay.errors import InvalidColumns, InvalidFines, InvalidPrices, InvalidTable


class Example(unittest.TestCase):
    def test_example(self):
        self.assertEqual((cost(GOOD, (2, 3, 1), (5, 5, 5), (2,)), are_weights(GOOD, (2, 3, 1), (5, 5, 5), (2, 1, 0)),
                          are_weights(GOOD, (2, 3, 1), (5, 5, 5), (2, 2, 0))), (6, True, False))
        self.assertEqual((is_paper(GOOD, (2, 3, 1), (5, 5, 5), ((0, 2), (2, 1, 0))),
                          is_paper(GOOD, (2, 3, 1), (5, 5, 5), ((2,), (2, 1, 0)))), (True, False))


class Cost(unittest.TestCase):
    def test_no_column_and_all_columns(self):
        for table, prices, fines in any_priced():
            self.assertEqual(check_again(self, cost, table, prices, fines, ()), sum(fines))
            fined = sum(fine for row, fine in zip(table, fines) if 'x' not in row)
            choice = tuple(range(len(prices)))
            self.assertEqual(check_again(self, cost, table, prices, fines, choice), sum(prices) + fined)

    def test_each_choice_of_small_tables(self):
        rnd = random.Random(41)
        for table in small_tables(3, 3) + small_tables(2, 3) + small_tables(3, 2) + small_tables(1, 4):
            _, prices, fines = priced(rnd, table, 999)
            for choice in choices_by_hand(len(prices)):
                self.assertEqual(cost(table, prices, fines, choice), cost_by_hand(table, prices, fines, choice))

    def test_some_choices_of_all_tables(self):
        rnd = random.Random(42)
        for table, prices, fines in any_priced() + ringless_priced():
            choice = tuple(sorted(rnd.sample(range(len(prices)), rnd.randint(0, len(prices)))))
            self.assertEqual(check_again(self, cost, table, prices, fines, choice),
                             cost_by_hand(table, prices, fines, choice))

    def test_wrong_choices(self):
        for choice in WRONG_COLUMNS + wrong_everywhere():
            before = copy.deepcopy(choice)
            with self.subTest(choice=repr(choice)[:80]):
                with self.assertRaises(InvalidColumns):
                    cost(GOOD, (1, 2, 3), (4, 5, 6), choice)
                with self.assertRaises(InvalidFines):
                    cost(GOOD, (1, 2, 3), (4, 5, 1000), choice)
                with self.assertRaises(InvalidPrices):
                    cost(GOOD, (1, 2, -1), (4, 5, 6), choice)
                with self.assertRaises(InvalidPrices):
                    cost(GOOD, (1, 2, -1), (4, 5, 1000), choice)
                with self.assertRaises(InvalidTable):
                    cost(GOOD[:2] + ('xxX',), (1, 2), (4, 5, 1000), choice)
                self.assertEqual(choice, before)

    def test_columns_not_rows_are_the_limit(self):
        self.assertEqual(cost(('xxxx',), (1, 2, 3, 4), (9,), (3,)), 4)
        with self.assertRaises(InvalidColumns):
            cost(('x', 'x', 'x'), (1,), (9, 9, 9), (1,))

    def test_errors(self):
        check_amount_errors(self, lambda table, prices, fines: cost(table, prices, fines, (0, 2)))
        check_amount_errors_only(self, lambda table, prices, fines: cost(table, prices, fines, (2, 0)))

    def test_by_name(self):
        self.assertEqual(cost(choice=(1,), fines=(4, 8), prices=(1, 2), table=('xx', 'x.')), 10)


def check_amount_errors_only(test, call):
    """Check the errors of wrong prices and fines, beside a fourth thing that is wrong, too."""
    for wrong in wrong_amounts(PRICES):
        with test.assertRaises(InvalidPrices):
            call(TABLE, wrong, FINES)
    for wrong in wrong_amounts(FINES):
        with test.assertRaises(InvalidFines):
            call(TABLE, PRICES, wrong)
    check_wrong_tables(test, lambda thing: call(thing, PRICES, FINES))


def near_weights(weights):
    """Things near weights: each too large or too small by one, of another kind, left out, and one more."""
    things = [weights[:-1], weights[1:], weights + (0,), weights + weights, list(weights), (weights,), (), None,
              dict(enumerate(weights)), tuple(map(str, weights)), tuple([weight] for weight in weights), weights[::-1],
              sum(weights), repr(weights)]
    for at, weight in enumerate(weights):
        for wrong in (weight + 1, weight - 1, -1, 0, 1, True, False, None, '0', (0,), [0], 999, 1000, 10 ** 39, -weight):
            things.append(weights[:at] + (wrong,) + weights[at + 1:])
    return things


class AreWeights(unittest.TestCase):
    def test_all_of_small_tables(self):
        for table, prices, fines in small_priced(2):
            if len(table) <= 3:
                tried = weights_by_hand(table, (99,) * len(prices), tuple(fine + 1 for fine in fines))
                for thing in tried:
                    self.assertIs(are_weights(table, prices, fines, thing), judge_weights(table, prices, fines, thing))

    def test_near_things(self):
        for table, prices, fines in ringless_priced()[::7] + [(GOOD, (2, 3, 1), (5, 5, 5))]:
            weights = paper(table, prices, fines)[1]
            self.assertIs(are_weights(table, prices, fines, weights), True)
            for thing in near_weights(weights):
                self.assertIs(check_again(self, are_weights, table, prices, fines, thing),
                              judge_weights(table, prices, fines, thing), (table, prices, fines, thing))

    def test_one_too_large(self):
        self.assertIs(are_weights(('x.', '.x'), (3, 9), (9, 4), (3, 4)), True)
        self.assertIs(are_weights(('x.', '.x'), (3, 9), (9, 4), (4, 4)), False)
        self.assertIs(are_weights(('x.', '.x'), (3, 9), (9, 4), (3, 5)), False)
        self.assertIs(are_weights(('x.', 'xx'), (3, 9), (9, 4), (0, 3)), True)
        self.assertIs(are_weights(('x.', 'xx'), (3, 9), (9, 4), (1, 3)), False)
        self.assertIs(are_weights(('.', 'x'), (0,), (999, 999), (999, 0)), True)
        self.assertIs(are_weights(('.', 'x'), (0,), (999, 999), (999, 1)), False)
        self.assertIs(are_weights(('.', 'x'), (0,), (999, 999), (1000, 0)), False)

    def test_last_column_and_last_row_count(self):
        self.assertIs(are_weights(('.......x',) * 8, (0,) * 7 + (8,), (1,) * 8, (1,) * 8), True)
        self.assertIs(are_weights(('.......x',) * 8, (0,) * 7 + (7,), (1,) * 8, (1,) * 8), False)
        self.assertIs(are_weights(('.......x',) * 8, (0,) * 7 + (8,), (1,) * 7 + (0,), (1,) * 8), False)

    def test_bools_are_no_weights(self):
        self.assertIs(are_weights(('x',), (1,), (1,), (1,)), True)
        self.assertIs(are_weights(('x',), (1,), (1,), (True,)), False)
        self.assertIs(are_weights(('x',), (1,), (1,), (False,)), False)

    def test_wrong_things(self):
        for thing in wrong_everywhere() + ['', 'x', '000', GOOD, (), (0, 0), (0, 0, 0, 0), [0, 0, 0]]:
            before = copy.deepcopy(thing)
            self.assertIs(are_weights(GOOD, (2, 3, 1), (5, 5, 5), thing), False)
            self.assertEqual(thing, before)

    def test_errors(self):
        check_amount_errors(self, lambda table, prices, fines: are_weights(table, prices, fines, (0, 0)))
        check_amount_errors_only(self, lambda table, prices, fines: are_weights(table, prices, fines, None))

    def test_by_name(self):
        self.assertIs(are_weights(thing=(1, 2), fines=(1, 2), prices=(1, 2), table=('x.', '.x')), True)


class IsPaper(unittest.TestCase):
    def test_all_of_small_tables(self):
        many = 0
        for table, prices, fines in small_priced(2):
            if len(table) * len(prices) <= 9:
                for choice in choices_by_hand(len(prices)):
                    for weights in weights_by_hand(table, prices, fines):
                        told = judge_paper(table, prices, fines, (choice, weights))
                        many += told
                        self.assertIs(is_paper(table, prices, fines, (choice, weights)), told)
        self.assertGreater(many, 50)

    def test_near_things(self):
        for table, prices, fines in ringless_priced()[::9] + [(GOOD, (2, 3, 1), (5, 5, 5))]:
            choice, weights = paper(table, prices, fines)
            self.assertIs(is_paper(table, prices, fines, (choice, weights)), True)
            choices = [choice[::-1], choice + choice, choice + choice[:1], choice[1:], choice[:-1], list(choice), None,
                       (), tuple(range(len(prices))), choice + (len(prices),), (-1,) + choice, choice + (-1,),
                       tuple(bool(column) for column in choice), set(choice), {}, dict.fromkeys(choice), '', 0]
            things = [(other, weights) for other in choices] + [(choice, other) for other in near_weights(weights)]
            things += [(weights, choice), [choice, weights], (choice, weights, ()), (choice,), choice, weights,
                       choice + weights, ((choice, weights),), {0: choice, 1: weights}, (choice, weights, weights)]
            for thing in things:
                self.assertIs(check_again(self, is_paper, table, prices, fines, thing),
                              judge_paper(table, prices, fines, thing), (table, prices, fines, thing))

    def test_not_ascending_and_twice(self):
        table, prices, fines = ('x.', '.x'), (1, 1), (9, 9)
        self.assertIs(is_paper(table, prices, fines, ((0, 1), (1, 1))), True)
        self.assertIs(is_paper(table, prices, fines, ((1, 0), (1, 1))), False)
        self.assertIs(is_paper(('x',), (0,), (9,), ((0,), (0,))), True)
        self.assertIs(is_paper(('x',), (0,), (9,), ((0, 0), (0,))), False)
        self.assertIs(is_paper(('x',), (0,), (9,), ((False,), (0,))), False)

    def test_costs_more_than_the_weights(self):
        self.assertIs(is_paper(('x',), (3,), (2,), ((), (2,))), True)
        self.assertIs(is_paper(('x',), (3,), (2,), ((0,), (2,))), False)
        self.assertIs(is_paper(('x',), (3,), (2,), ((), (1,))), False)
        # The sums are equal here, but these are no weights.
        self.assertIs(is_paper(('x',), (3,), (2,), ((0,), (3,))), False)

    def test_wrong_things(self):
        for thing in wrong_everywhere() + ['', 'xx', RINGED, (), ((), ()), ((), (0, 0, 0)), ((0, 2), [2, 1, 0])]:
            before = copy.deepcopy(thing)
            self.assertIs(is_paper(GOOD, (2, 3, 1), (5, 5, 5), thing), False)
            self.assertIs(is_paper(GOOD, (2, 3, 1), (5, 5, 5), (thing, (2, 1, 0))), False)
            self.assertIs(is_paper(GOOD, (2, 3, 1), (5, 5, 5), ((0, 2), thing)), False)
            self.assertEqual(thing, before)

    def test_errors(self):
        check_amount_errors(self, lambda table, prices, fines: is_paper(table, prices, fines, ((), (0, 0))))
        check_amount_errors_only(self, lambda table, prices, fines: is_paper(table, prices, fines, None))

    def test_by_name(self):
        self.assertIs(is_paper(thing=((), (2,)), fines=(2,), prices=(3,), table=('x',)), True)
