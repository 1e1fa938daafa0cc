"""What is told of a table by costs, worth, fewest columns and rows apart fits together, also when parts change."""

import random
import unittest

from tests.cost_samples import any_priced, ringless_priced, small_priced
from tests.judges import in_order_by_hand, judge_lexical
from tests.samples import GOOD, many_tables, small_tables, squareless_table
from ticklay.alike import are_alike
from ticklay.arrangements import arrangement, is_arrangement, squares
from ticklay.cheapest import cheapest, gap, heaviest, paper
from ticklay.choices import cost, is_paper
from ticklay.fewest import fewest_columns, most_apart
from ticklay.going import go
from ticklay.ladders import ladder
from ticklay.lexical import lexical
from ticklay.live import Live
from ticklay.mending import fewest_put, fewest_strikes
from ticklay.nests import core
from ticklay.rings import is_ring, ring
from ticklay.shell import Shell
from ticklay.tables import part
from ticklay.texts import format_table
from ticklay.worth import in_each, in_some, worth


def some_priced():
    return any_priced()[::4] + ringless_priced()[::9] + small_priced(4)[::5]


def least(table, prices, fines):
    return cheapest(table, prices, fines)[0]


def put_at(thing, at, item):
    """Return a tuple, or a string, with one item exchanged."""
    return thing[:at] + (item if type(item) is str and type(thing) is str else (item,)) + thing[at + 1:]


class Prices(unittest.TestCase):
    def test_a_price_made_greater_or_less_by_one(self):
        for table, prices, fines in some_priced():
            each, some = in_each(table, prices, fines), in_some(table, prices, fines)
            before = least(table, prices, fines)
            for column, price in enumerate(prices):
                if price < 999:
                    more = least(table, put_at(prices, column, price + 1), fines)
                    self.assertEqual(more - before, int(column in each), (table, prices, fines, column))
                if price > 0:
                    less = least(table, put_at(prices, column, price - 1), fines)
                    self.assertEqual(before - less, int(column in some), (table, prices, fines, column))

    def test_a_price_around_the_worth(self):
        for table, prices, fines in some_priced():
            for column in range(len(prices)):
                told = worth(table, prices, fines, column)
                self.assertGreaterEqual(told, 0)
                for price in (told - 1, told, told + 1):
                    if 0 <= price <= 999:
                        exchanged = put_at(prices, column, price)
                        self.assertEqual(worth(table, exchanged, fines, column), told)
                        self.assertEqual(column in in_each(table, exchanged, fines), price < told)
                        self.assertEqual(column in in_some(table, exchanged, fines), price <= told)

    def test_worth_is_at_most_the_fines_of_its_rows(self):
        for table, prices, fines in some_priced():
            for column in range(len(prices)):
                its = sum(fine for row, fine in zip(table, fines) if row[column] == 'x')
                self.assertLessEqual(worth(table, prices, fines, column), its)

    def test_all_amounts_times_two(self):
        for table, prices, fines in some_priced():
            if max(prices + fines) <= 499:
                doubled = (tuple(2 * price for price in prices), tuple(2 * fine for fine in fines))
                self.assertEqual(least(table, *doubled), 2 * least(table, prices, fines))
                self.assertEqual(in_each(table, *doubled), in_each(table, prices, fines))
                self.assertEqual(in_some(table, *doubled), in_some(table, prices, fines))


class Fines(unittest.TestCase):
    def test_a_fine_made_greater_by_one(self):
        for table, prices, fines in some_priced():
            before = least(table, prices, fines)
            for row, fine in enumerate(fines):
                if fine < 999:
                    more = least(table, prices, put_at(fines, row, fine + 1))
                    self.assertIn(more - before, (0, 1))
                    if 'x' not in table[row]:
                        self.assertEqual(more - before, 1)

    def test_a_row_without_a_fine_counts_for_nothing(self):
        for table, prices, fines in some_priced():
            if len(table) > 1:
                self.assertEqual(least(table, prices, fines[:-1] + (0,)), least(table[:-1], prices, fines[:-1]))


class Parts(unittest.TestCase):
    def test_a_row_put_to_it(self):
        rnd = random.Random(111)
        for table, prices, fines in some_priced():
            if len(table) < 8:
                before = least(table, prices, fines)
                row = ''.join(rnd.choice('x.') for _ in prices)
                more = least(table + (row,), prices, fines + (7,))
                self.assertTrue(before <= more <= before + 7)
                self.assertEqual(least(table + ('.' * len(prices),), prices, fines + (7,)), before + 7)
                if fines[0] + 7 <= 999:
                    self.assertEqual(least(table + table[:1], prices, fines + (7,)),
                                     least(table, prices, (fines[0] + 7,) + fines[1:]))

    def test_a_column_put_to_it(self):
        rnd = random.Random(112)
        for table, prices, fines in some_priced():
            if len(prices) < 8:
                before = least(table, prices, fines)
                signs = [rnd.choice('x.') for _ in table]
                wider = tuple(row + sign for row, sign in zip(table, signs))
                told = worth(wider, prices + (0,), fines, len(prices))
                for price in (0, 3, 999):
                    self.assertEqual(least(wider, prices + (price,), fines), min(before, before - told + price))
                twice = tuple(row + row[0] for row in table)
                self.assertEqual(least(twice, prices + (999,), fines), before)
                blank = tuple(row + '.' for row in table)
                self.assertEqual(worth(blank, prices + (5,), fines, len(prices)), 0)
                self.assertEqual(least(blank, prices + (5,), fines), before)

    def test_a_tick_put_or_struck(self):
        rnd = random.Random(113)
        for table, prices, fines in some_priced():
            row, column = rnd.randrange(len(table)), rnd.randrange(len(prices))
            ticked = put_at(table, row, put_at(table[row], column, 'x'))
            struck = put_at(table, row, put_at(table[row], column, '.'))
            lesser, greater = least(ticked, prices, fines), least(struck, prices, fines)
            self.assertTrue(lesser <= greater <= lesser + fines[row])
            apart = len(most_apart(struck)) - len(most_apart(ticked))
            self.assertIn(apart, (0, 1))
            columns = fewest_columns(struck)
            if columns is not None:
                self.assertIn(len(columns) - len(fewest_columns(ticked)), (0, 1))

    def test_another_order(self):
        rnd = random.Random(114)
        for table, prices, fines in some_priced():
            rows, columns = list(range(len(table))), list(range(len(prices)))
            rnd.shuffle(rows)
            rnd.shuffle(columns)
            other = (in_order_by_hand(table, (rows, columns)), tuple(prices[column] for column in columns),
                     tuple(fines[row] for row in rows))
            self.assertEqual(least(*other), least(table, prices, fines))
            some = in_some(table, prices, fines)
            self.assertEqual(in_some(*other), tuple(at for at, column in enumerate(columns) if column in some))
            for at, column in enumerate(columns):
                self.assertEqual(worth(*other, at), worth(table, prices, fines, column))
            self.assertEqual(len(most_apart(other[0])), len(most_apart(table)))
            self.assertEqual(fewest_columns(other[0]) is None, fewest_columns(table) is None)
            if len(table) <= 5:
                self.assertIs(are_alike(table, other[0]), True)


class OfTheSameTable(unittest.TestCase):
    def test_cost_of_the_cheapest_choice(self):
        for table, prices, fines in some_priced():
            told, choice = cheapest(table, prices, fines)
            self.assertEqual(cost(table, prices, fines, choice), told)
            self.assertLessEqual(set(in_each(table, prices, fines)), set(choice))
            self.assertLessEqual(set(choice), set(in_some(table, prices, fines)))

    def test_go_and_paper_and_gap(self):
        for table, prices, fines in ringless_priced()[::5]:
            made = go(table, prices, fines, arrangement(table))
            self.assertIs(is_paper(table, prices, fines, made), True)
            self.assertIs(is_paper(table, prices, fines, paper(table, prices, fines)), True)
            self.assertEqual(cost(table, prices, fines, made[0]), least(table, prices, fines))
            self.assertEqual(sum(made[1]), heaviest(table, prices, fines)[0])
            self.assertTrue(judge_lexical(table, lexical(table)))

    def test_paper_exactly_if_there_is_no_gap(self):
        for table, prices, fines in small_priced(4):
            self.assertEqual(paper(table, prices, fines) is None, gap(table, prices, fines) > 0)
            if gap(table, prices, fines) > 0:
                self.assertIsNotNone(ring(table))

    def test_fewest_columns_by_costs(self):
        for table in many_tables()[::3] + [GOOD]:
            found = fewest_columns(table)
            if found is not None:
                ones, nines = (1,) * len(table[0]), (9,) * len(table)
                self.assertEqual(least(table, ones, nines), len(found))
                self.assertEqual(cost(table, ones, nines, found), len(found))

    def test_most_apart_by_weights(self):
        rnd = random.Random(115)
        tables = small_tables(3, 3) + small_tables(2, 4)
        tables += [squareless_table(rnd, rnd.randint(1, 8), rnd.randint(1, 8), 0.3) for _ in range(60)]
        for table in tables:
            ones = ((1,) * len(table[0]), (1,) * len(table))
            self.assertEqual(heaviest(table, *ones)[0], len(most_apart(table)), table)


def shell_answers(table, prices, fines):
    """What a shell answers of a table."""
    shell = Shell()
    shell.run('open it ' + format_table(table).replace('\n', '/'))
    amounts = ','.join(str(price) for price in prices) + ' ' + ','.join(str(fine) for fine in fines)
    return [shell.run(line) for line in ('show it', 'ring it', 'squares it', 'core it', 'cost it ' + amounts)]


class LiveTablesAndShells(unittest.TestCase):
    def test_what_they_tell_is_what_is_told_of_the_table(self):
        for table, prices, fines in some_priced():
            live = Live(table)
            columns = ' '.join(str(column) for column in core(table))
            self.assertEqual(shell_answers(table, prices, fines),
                             ['/'.join(table), 'no' if ring(table) is None else 'yes', str(len(squares(table))),
                              columns or 'none', str(least(table, prices, fines))])
            self.assertEqual(live.table, table)
            if live.ring is None:
                self.assertIs(is_arrangement(table, live.arrangement), True)
                self.assertIs(is_paper(table, prices, fines, live.paper(prices, fines)), True)
                self.assertEqual(core(table), ())
            else:
                self.assertIs(is_ring(table, live.ring), True)
                self.assertIsNone(live.arrangement)
                self.assertLessEqual(set(live.ring[1]), set(core(table)))

    def test_the_same_again_behind_other_tables(self):
        found = []
        for table, prices, fines in some_priced()[::2]:
            live = Live(table)
            found.append((live, live.ring, live.arrangement, shell_answers(table, prices, fines), lexical(table)))
        for told, (table, prices, fines) in zip(found, some_priced()[::2]):
            live = told[0]
            self.assertEqual(told, (live, live.ring, live.arrangement, shell_answers(table, prices, fines),
                                    lexical(table)))

    def test_another_order(self):
        rnd = random.Random(116)
        for table, prices, fines in some_priced():
            rows, columns = list(range(len(table))), list(range(len(prices)))
            rnd.shuffle(rows)
            rnd.shuffle(columns)
            other = (part(table, tuple(rows), tuple(columns)), tuple(prices[column] for column in columns),
                     tuple(fines[row] for row in rows))
            one, two = shell_answers(table, prices, fines), shell_answers(*other)
            self.assertEqual((one[1], one[4]), (two[1], two[4]))
            moved = sorted(columns.index(column) for column in core(table))
            self.assertEqual(two[3], ' '.join(str(column) for column in moved) or 'none')

    def test_a_live_table_told_at_each_step_back_and_forth(self):
        rnd = random.Random(117)
        for table, prices, fines in some_priced()[::4]:
            live = Live(table)
            told = []
            for _ in range(8):
                told.append((live.table, live.ring, live.arrangement, shell_answers(live.table, prices, fines)))
                row, column = rnd.randrange(len(table)), rnd.randrange(len(prices))
                (live.strike if live.table[row][column] == 'x' else live.put)(row, column)
            for before in told[::-1]:
                live.undo()
                self.assertEqual((live.table, live.ring, live.arrangement,
                                  shell_answers(live.table, prices, fines)), before)


class MendingAndLadders(unittest.TestCase):
    def test_what_is_mended_has_an_arrangement(self):
        rnd = random.Random(118)
        for table in rnd.sample(small_tables(3, 3), 80) + [table for table in many_tables() if len(table) == 4][::4]:
            if len(table[0]) <= 4:
                live = Live(table)
                for place in fewest_strikes(table):
                    self.assertIsNotNone(live.ring)
                    live.strike(*place)
                self.assertIsNotNone(live.arrangement)
                live = Live(table)
                for place in fewest_put(table):
                    self.assertIsNotNone(live.ring)
                    live.put(*place)
                self.assertIsNotNone(live.arrangement)

    def test_the_rows_and_columns_of_a_ladder_are_a_ring_alone(self):
        for table in many_tables()[::3]:
            order = lexical(table)
            for square in squares(part(table, *order))[:4]:
                rows, columns = ladder(table, order, square)
                alone = part(table, rows, columns)
                found = ring(alone)
                self.assertEqual((sorted(found[0]), sorted(found[1])), (list(range(len(rows))),) * 2)
                self.assertEqual(core(alone), tuple(range(len(rows))))
