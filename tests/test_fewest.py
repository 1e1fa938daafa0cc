import random
import unittest

from tests.cost_judges import are_apart_by_hand, choices_by_hand, judge_choice
from tests.cost_samples import check_again
from tests.judges import has
from tests.samples import (GOOD, RINGED, check_wrong_tables, many_tables, ring_alone, small_tables, squareless_table)
from ticklay.fewest import fewest_columns, most_apart
from ticklay.rings import ring


def some_tables():
    rnd = random.Random(91)
    tables = small_tables(3, 3) + small_tables(2, 3) + small_tables(4, 2) + rnd.sample(many_tables(), 120)
    tables += [ring_alone(many) for many in range(3, 9)] + [('x' * 8,) * 8, ('.' * 8,) * 8, ('x',), ('.',)]
    tables += [('x' * 8,) * 7 + ('.' * 8,), tuple('.' * at + 'x' + '.' * (7 - at) for at in range(8))]
    return tables + [squareless_table(rnd, rnd.randint(1, 8), rnd.randint(1, 8), 0.3) for _ in range(60)]


def is_met(table, choice):
    return all(any(has(table, row, column) for column in choice) for row in range(len(table)))


class FewestColumns(unittest.TestCase):
    def test_example(self):
        self.assertEqual((fewest_columns(GOOD), len(most_apart(GOOD)), len(fewest_columns(RINGED)),
                          len(most_apart(RINGED)), fewest_columns(('x.', '..'))), ((1,), 1, 2, 1, None))

    def test_against_all_choices(self):
        for table in some_tables():
            met = [choice for choice in choices_by_hand(len(table[0])) if is_met(table, choice)]
            found = check_again(self, fewest_columns, table)
            if met == []:
                self.assertIsNone(found, table)
            else:
                self.assertTrue(judge_choice(table, found), table)
                self.assertTrue(is_met(table, found), table)
                self.assertEqual(len(found), min(map(len, met)), table)

    def test_none_exactly_if_some_row_has_no_column(self):
        for table in some_tables():
            self.assertEqual(fewest_columns(table) is None, any('x' not in row for row in table), table)

    def test_all_columns_are_needed(self):
        table = tuple('.' * at + 'x' + '.' * (7 - at) for at in range(8))
        self.assertEqual(fewest_columns(table), tuple(range(8)))
        self.assertEqual(most_apart(table), tuple(range(8)))

    def test_wrong_tables(self):
        check_wrong_tables(self, fewest_columns)

    def test_by_name(self):
        self.assertEqual(fewest_columns(table=('.x',)), (1,))


class MostApart(unittest.TestCase):
    def test_against_all_tuples_of_rows(self):
        for table in some_tables():
            apart = [rows for rows in choices_by_hand(len(table)) if are_apart_by_hand(table, rows)]
            found = check_again(self, most_apart, table)
            self.assertIn(found, apart, table)
            self.assertIs(type(found), tuple)
            self.assertEqual(len(found), max(map(len, apart)), table)

    def test_rows_without_a_column_and_equal_rows(self):
        self.assertEqual(most_apart(('.', '.', '.')), (0, 1, 2))
        self.assertEqual(most_apart(('.' * 8,) * 8), tuple(range(8)))
        self.assertEqual(len(most_apart(('xx', 'xx', 'xx'))), 1)
        self.assertEqual(len(most_apart(('xx', '..', 'xx'))), 2)
        self.assertEqual(most_apart(('x.', '.x', 'xx')), (0, 1))

    def test_rings_alone(self):
        for many in range(3, 9):
            self.assertEqual(len(most_apart(ring_alone(many))), many // 2)
            self.assertEqual(len(fewest_columns(ring_alone(many))), (many + 1) // 2)

    def test_equally_many_without_a_ring(self):
        met = 0
        for table in some_tables():
            columns, rows = fewest_columns(table), most_apart(table)
            if columns is not None:
                # Each row apart has a column of the choice, and no two have the same.
                self.assertLessEqual(len(rows), len(columns), table)
                if ring(table) is None:
                    self.assertEqual(len(rows), len(columns), table)
                    met += 1
        self.assertGreater(met, 100)

    def test_wrong_tables(self):
        check_wrong_tables(self, most_apart)

    def test_by_name(self):
        self.assertEqual(most_apart(table=('.x',)), (0,))
