import random
import unittest

from tests.cost_judges import judge_paper, judge_weights, least_by_hand, weights_by_hand
from tests.cost_samples import any_priced, check_again, check_amount_errors, priced, ringless_priced, small_priced
from tests.samples import GOOD, RINGED, ring_alone, shuffled, small_tables
from ticklay.cheapest import cheapest, gap, heaviest, paper
from ticklay.rings import ring


class Example(unittest.TestCase):
    def test_example(self):
        ones, twos, fives = (1, 1, 1), (2, 2, 2), (5, 5, 5)
        self.assertEqual((cheapest(RINGED, ones, twos)[0], heaviest(RINGED, ones, twos)[0], paper(RINGED, ones, twos),
                          gap(RINGED, ones, twos)), (2, 1, None, 1))
        self.assertEqual((cheapest(GOOD, (2, 3, 9), fives), heaviest(GOOD, (2, 3, 1), fives)[0],
                          gap(GOOD, (2, 3, 1), fives)), ((3, (1,)), 3, 0))


class Cheapest(unittest.TestCase):
    def check_cheapest(self, table, prices, fines):
        least, choices = least_by_hand(table, prices, fines)
        found = check_again(self, cheapest, table, prices, fines)
        self.assertIs(type(found), tuple)
        self.assertEqual(len(found), 2)
        self.assertEqual(found[0], least, (table, prices, fines))
        self.assertIn(found[1], choices, (table, prices, fines))

    def test_against_all_choices(self):
        for table, prices, fines in any_priced() + ringless_priced()[::5] + small_priced(4):
            self.check_cheapest(table, prices, fines)

    def test_all_small_tables(self):
        rnd = random.Random(61)
        for table in small_tables(3, 3) + small_tables(2, 4):
            self.check_cheapest(*priced(rnd, table, 6))

    def test_nothing_and_everything(self):
        self.assertEqual(cheapest(('.',), (1,), (999,)), (999, ()))
        self.assertEqual(cheapest(('x',), (1,), (999,)), (1, (0,)))
        self.assertEqual(cheapest(('x',), (999,), (998,)), (998, ()))
        self.assertEqual(cheapest(('x.', '.x'), (0, 0), (1, 1)), (0, (0, 1)))
        self.assertEqual(cheapest(('x',) * 8, (999,), (999,) * 8), (999, (0,)))

    def test_errors(self):
        check_amount_errors(self, cheapest)

    def test_by_name(self):
        self.assertEqual(cheapest(fines=(2,), prices=(3,), table=('x',)), (2, ()))


class WeightsTried(unittest.TestCase):
    """The heaviest weights, papers and gaps, against all weights tried one by one."""

    def check_all(self, table, prices, fines):
        told = (table, prices, fines)
        greatest = max(sum(weights) for weights in weights_by_hand(table, prices, fines))
        least = least_by_hand(table, prices, fines)[0]
        found = check_again(self, heaviest, table, prices, fines)
        self.assertEqual((type(found), len(found), found[0], sum(found[1])), (tuple, 2, greatest, greatest), told)
        self.assertTrue(judge_weights(table, prices, fines, found[1]), told)
        self.assertEqual(check_again(self, gap, table, prices, fines), least - greatest, told)
        proof = check_again(self, paper, table, prices, fines)
        if least == greatest:
            self.assertTrue(judge_paper(table, prices, fines, proof), told)
        else:
            self.assertIsNone(proof, told)
        return least - greatest

    def test_small_tables_with_and_without_rings(self):
        apart, met = 0, 0
        for most in (2, 4):
            for table, prices, fines in small_priced(most):
                found = self.check_all(table, prices, fines)
                if ring(table) is None:
                    self.assertEqual(found, 0)
                else:
                    apart += found > 0
                    met += found == 0
        # Of a table with a ring there may be a paper, or none.
        self.assertGreater(apart, 20)
        self.assertGreater(met, 20)

    def test_rings_of_three_rows_and_all_small_prices(self):
        rnd = random.Random(62)
        for _ in range(200):
            table, prices, fines = priced(rnd, shuffled(rnd, RINGED), 4)
            self.check_all(table, prices, fines)

    def test_four_rows_with_more_than_one_ring(self):
        rnd = random.Random(63)
        pairs = ('xx....', 'x.x...', 'x..x..', '.xx...')
        for table in (('xxx.', 'xx.x', 'x.xx', '.xxx'), ('xxx...', 'x..xx.', '.x.x.x', '..x.xx'), pairs,
                      ('xx..xx..', '.xx..xx.', '..xx..xx', 'x..xx..x')):
            for _ in range(12):
                table = shuffled(rnd, table)
                self.check_all(*priced(rnd, table, 4))
                self.check_all(table, (4,) * len(table[0]), (4,) * 4)
                self.check_all(table, (3,) * len(table[0]), (4,) * 4)

    def test_a_gap_of_more_than_one(self):
        self.assertEqual(self.check_all(RINGED, (4, 4, 4), (4, 4, 4)), 2)
        self.assertEqual(self.check_all(RINGED, (3, 3, 3), (4, 4, 4)), 2)


class Ringless(unittest.TestCase):
    def test_papers_of_all_sizes(self):
        for table, prices, fines in ringless_priced():
            told = (table, prices, fines)
            found = check_again(self, paper, table, prices, fines)
            self.assertTrue(judge_paper(table, prices, fines, found), told)
            # No sum of weights is greater than a cost, so a paper tells both.
            greatest, weights = check_again(self, heaviest, table, prices, fines)
            self.assertEqual((greatest, sum(weights)), (sum(found[1]), greatest), told)
            self.assertTrue(judge_weights(table, prices, fines, weights), told)
            self.assertEqual(cheapest(table, prices, fines)[0], greatest, told)
            self.assertEqual(gap(table, prices, fines), 0, told)

    def test_full_and_empty_tables(self):
        full = ('x' * 8,) * 8
        self.assertEqual(heaviest(full, (999,) * 7 + (998,), (999,) * 8)[0], 998)
        self.assertEqual(heaviest(('.' * 8,) * 8, (0,) * 8, (999,) * 8), (7992, (999,) * 8))
        self.assertEqual(paper(('.',), (1,), (2,)), ((), (2,)))


class Gap(unittest.TestCase):
    def test_rings_alone(self):
        rnd = random.Random(64)
        for many in range(3, 9):
            for table in (ring_alone(many), shuffled(rnd, ring_alone(many))):
                ones, twos = (1,) * many, (2,) * many
                self.assertEqual(gap(table, ones, twos), many % 2)
                self.assertEqual(paper(table, ones, twos) is None, many % 2 == 1)
                self.assertEqual((cheapest(table, ones, twos)[0], heaviest(table, ones, twos)[0]),
                                 ((many + 1) // 2, many // 2))

    def test_never_below_zero(self):
        rnd = random.Random(65)
        for _ in range(100):
            table, prices, fines = priced(rnd, shuffled(rnd, RINGED + ('xxx',)), 4)
            self.assertGreaterEqual(gap(table, prices, fines), 0)


class Errors(unittest.TestCase):
    def test_heaviest(self):
        check_amount_errors(self, heaviest)

    def test_paper(self):
        check_amount_errors(self, paper)

    def test_gap(self):
        check_amount_errors(self, gap)

    def test_by_name(self):
        self.assertEqual(heaviest(fines=(2,), prices=(3,), table=('x',)), (2, (2,)))
        self.assertEqual(paper(fines=(2,), prices=(3,), table=('x',)), ((), (2,)))
        self.assertEqual(gap(fines=(2,), prices=(3,), table=('x',)), 0)
