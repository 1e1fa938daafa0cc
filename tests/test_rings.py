import copy
import random
import unittest

from tests.judges import all_rings, judge_ring, ring_sizes
from tests.samples import (GOOD, RINGED, check_wrong_tables, many_tables, near_rings, put_within, ring_alone,
                           road_table, shuffled, small_tables, some_table, wrong_everywhere)
from ticklay.rings import is_ring, odd_ring, ring


class IsRing(unittest.TestCase):
    def test_example(self):
        self.assertEqual((is_ring(RINGED, ((0, 1, 2), (0, 1, 2))), is_ring(RINGED, ((0, 1, 2), (1, 0, 2))),
                          ring(('xx.', '.xx', 'xxx'))), (True, False, None))

    def test_all_of_small_tables(self):
        places = [(0, 1, 2), (1, 2, 0), (2, 1, 0), (0, 2, 1), (0, 1), (0,), (2, 0, 1), (1, 0, 2), (0, 1, 0)]
        things = [(rows, columns) for rows in places for columns in places]
        for table in small_tables(3, 3):
            for thing in things:
                self.assertIs(is_ring(table, thing), judge_ring(table, thing), (table, thing))

    def test_near_things(self):
        rnd = random.Random(3)
        for many in range(3, 9):
            for table in (ring_alone(many), shuffled(rnd, put_within(rnd, ring_alone(many), 8, 8, 0.4))):
                found = ring(table)
                self.assertIs(is_ring(table, found), True)
                for thing in near_rings(found):
                    before = copy.deepcopy(thing)
                    self.assertIs(is_ring(table, thing), judge_ring(table, thing), (table, thing))
                    self.assertEqual(thing, before)

    def test_two_rows_and_columns_are_none(self):
        self.assertIs(is_ring(('xx', 'xx'), ((0, 1), (0, 1))), False)
        self.assertIs(is_ring(('xxx', 'xxx', 'xxx'), ((0, 1), (0, 1))), False)
        self.assertIs(is_ring(('x',), ((0,), (0,))), False)

    def test_two_rounds_are_no_ring(self):
        two = tuple(row + '...' for row in RINGED) + tuple('...' + row for row in RINGED)
        self.assertIs(is_ring(two, ((0, 1, 2), (0, 1, 2))), True)
        self.assertIs(is_ring(two, ((3, 4, 5), (3, 4, 5))), True)
        self.assertIs(is_ring(two, ((0, 1, 2, 3, 4, 5), (0, 1, 2, 3, 4, 5))), False)

    def test_a_row_with_a_third_column_and_a_row_with_one(self):
        self.assertIs(is_ring(('xx..', '.xx.', 'x.xx', 'x..x'), ((0, 1, 2, 3), (0, 1, 2, 3))), False)
        self.assertIs(is_ring(('xx..', '.xx.', '..x.', 'x..x'), ((0, 1, 2, 3), (0, 1, 2, 3))), False)
        self.assertIs(is_ring(('xx.', '.xx', 'xxx'), ((0, 1, 2), (0, 1, 2))), False)

    def test_columns_outside_do_not_count(self):
        self.assertIs(is_ring(('xx.x', '.xxx', 'x.xx', 'xxxx'), ((0, 1, 2), (0, 1, 2))), True)

    def test_wrong_things(self):
        for thing in wrong_everywhere() + [(), '', 'x', RINGED, ((0, 1, 2), 'xxx')]:
            before = copy.deepcopy(thing)
            self.assertIs(is_ring(RINGED, thing), False)
            self.assertEqual(thing, before)

    def test_wrong_tables(self):
        check_wrong_tables(self, lambda thing: is_ring(thing, ((0, 1, 2), (0, 1, 2))))
        check_wrong_tables(self, lambda thing: is_ring(thing, None))

    def test_by_name(self):
        self.assertIs(is_ring(thing=((0, 1, 2), (0, 1, 2)), table=RINGED), True)


class Ring(unittest.TestCase):
    def test_small_tables_against_all_rings(self):
        rnd = random.Random(4)
        tables = small_tables(3, 3) + small_tables(2, 4) + rnd.sample(small_tables(3, 4), 200)
        tables += rnd.sample(small_tables(4, 3), 200) + [some_table(rnd, 4, 4, 0.55) for _ in range(150)]
        for table in tables:
            rings = all_rings(table)
            found = ring(table)
            self.assertEqual(found is None, rings == [], table)
            self.assertTrue(found is None or found in rings, table)

    def test_tables_of_all_sizes(self):
        for table in many_tables():
            found = ring(table)
            if found is None:
                self.assertEqual(ring_sizes(table), set(), table)
            else:
                self.assertTrue(judge_ring(table, found), table)
                self.assertIs(is_ring(table, found), True)

    def test_rings_alone(self):
        for many in range(3, 9):
            found = ring(ring_alone(many))
            self.assertEqual((sorted(found[0]), sorted(found[1])), (list(range(many)), list(range(many))))

    def test_none_where_there_is_none(self):
        rnd = random.Random(5)
        for _ in range(200):
            table = road_table(rnd, rnd.randint(1, 8), rnd.randint(1, 8))
            self.assertIsNone(ring(table), table)
            self.assertIsNone(odd_ring(table), table)

    def test_wrong_tables(self):
        check_wrong_tables(self, ring)

    def test_by_name(self):
        self.assertIsNone(ring(table=GOOD))


class OddRing(unittest.TestCase):
    def check_odd(self, table, found):
        self.assertTrue(judge_ring(table, found), table)
        self.assertEqual(len(found[0]) % 2, 1, table)

    def test_example(self):
        self.assertEqual((len(odd_ring(RINGED)[0]), odd_ring(('xx..', '.xx.', '..xx', 'x..x'))), (3, None))

    def test_rings_alone(self):
        rnd = random.Random(6)
        for many in (3, 5, 7):
            for table in (ring_alone(many), shuffled(rnd, ring_alone(many))):
                found = odd_ring(table)
                self.check_odd(table, found)
                self.assertEqual(len(found[0]), many)
        for many in (4, 6, 8):
            for table in (ring_alone(many), shuffled(rnd, ring_alone(many))):
                self.assertIsNone(odd_ring(table))
                self.assertIsNotNone(ring(table))

    def test_even_ones_with_more_beside_them(self):
        rnd = random.Random(8)
        for many in (4, 6):
            for _ in range(20):
                self.assertIsNone(odd_ring(shuffled(rnd, put_within(rnd, ring_alone(many), 8, 8, 0))))
                whole = put_within(rnd, ring_alone(many), 8, 8, 1)
                self.assertEqual(odd_ring(whole) is None, not ring_sizes(whole) & {3, 5, 7})

    def test_odd_one_beside_even_ones(self):
        four, three = ring_alone(4), ring_alone(3)
        table = tuple(row + '...' for row in four) + tuple('....' + row for row in three)
        rnd = random.Random(9)
        for _ in range(20):
            table = shuffled(rnd, table)
            self.check_odd(table, odd_ring(table))
        for many in (5, 7):
            # A row with columns 0 and 3 of an odd ring makes a ring of four of the ring's one side.
            chord = ''.join('x' if column in (0, 3) else '.' for column in range(many))
            table = shuffled(rnd, ring_alone(many) + (chord,))
            self.assertIn(4, ring_sizes(table))
            self.check_odd(table, odd_ring(table))

    def test_tables_of_all_sizes(self):
        rnd = random.Random(10)
        tables = many_tables() + [some_table(rnd, 8, 8, share) for share in (0.25, 0.3, 0.4) for _ in range(30)]
        even_only = 0
        for table in tables:
            sizes = ring_sizes(table)
            found = odd_ring(table)
            if found is None:
                self.assertFalse(sizes & {3, 5, 7}, table)
                even_only += sizes != set()
            else:
                self.check_odd(table, found)
        self.assertGreater(even_only, 10)

    def test_wrong_tables(self):
        check_wrong_tables(self, odd_ring)

    def test_by_name(self):
        self.assertIsNone(odd_ring(table=GOOD))
