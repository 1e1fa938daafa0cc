import copy
import random
import unittest

from tests.cost_judges import judge_paper
from tests.cost_samples import some_amounts, wrong_amounts
from tests.judges import has, judge_arrangement, judge_ring, ring_sizes
from tests.samples import (GOOD, RINGED, check_wrong_tables, exchanged_at, many_tables, ring_alone, some_table,
                           wrong_everywhere)
from ticklay.cheapest import paper
from ticklay.errors import (HasRing, InvalidFines, InvalidIndex, InvalidPrices, InvalidTable, KnownTick, NothingToRedo,
                            NothingToUndo, UnknownTick)
from ticklay.live import Live
from ticklay.rings import ring

WRONG_INDEXES = [-1, -2, -8, 8, 10 ** 39, -10 ** 39, True, False, None, '', '0', (), (0,), [], [0], {}, {0: 0}]

RINGS = {}


def has_ring_by_hand(table):
    if table not in RINGS:
        RINGS[table] = ring_sizes(table) != set()
    return RINGS[table]


class Kept:
    """What a live table should hold: all states, one behind the other, and which of them it is in."""

    def __init__(self, table):
        self.states = [table]
        self.at = 0

    def table(self):
        return self.states[self.at]

    def change(self, row, column, sign):
        del self.states[self.at + 1:]
        self.states.append(exchanged_at(self.table(), row, column, sign))
        self.at += 1

    def copy(self):
        return copy.deepcopy(self)


def check_held(test, live, kept):
    test.assertEqual((live.table, len(live)), (kept.table(), kept.at))
    test.assertIs(type(live.table), tuple)
    test.assertIs(type(len(live)), int)


def check_told(test, rnd, live):
    """Check the ring, the arrangement and the paper of a live table by the words of the document."""
    table = live.table
    if has_ring_by_hand(table):
        test.assertTrue(judge_ring(table, live.ring), table)
        test.assertIsNone(live.arrangement)
        with test.assertRaises(HasRing):
            live.paper((0,) * len(table[0]), (0,) * len(table))
        return
    test.assertIsNone(live.ring)
    test.assertTrue(judge_arrangement(table, live.arrangement), table)
    most = rnd.choice((1, 5, 999))
    prices, fines = some_amounts(rnd, len(table[0]), most), some_amounts(rnd, len(table), most)
    test.assertTrue(judge_paper(table, prices, fines, live.paper(prices, fines)), (table, prices, fines))


def drawn_call(test, rnd, live, kept):
    """Draw one call, also one that is refused, and do it to a live table and to what it should hold."""
    table = kept.table()
    row, column = rnd.randrange(len(table)), rnd.randrange(len(table[0]))
    kind = rnd.choice(('put', 'put', 'strike', 'strike', 'undo', 'undo', 'redo', 'redo', 'wrong'))
    if kind == 'wrong':
        wrong = rnd.choice(WRONG_INDEXES)
        call = rnd.choice((live.put, live.strike))
        for places in ((wrong, column), (row, wrong), (wrong, wrong), (len(table), column), (row, len(table[0]))):
            with test.assertRaises(InvalidIndex):
                call(*places)
    elif kind in ('put', 'strike'):
        sign, other, error = {'put': ('x', '.', KnownTick), 'strike': ('.', 'x', UnknownTick)}[kind]
        if table[row][column] == sign:
            with test.assertRaises(error):
                getattr(live, kind)(row, column)
        else:
            test.assertIsNone(getattr(live, kind)(row, column))
            kept.change(row, column, sign)
    elif kind == 'undo':
        if kept.at == 0:
            test.assertRaises(NothingToUndo, live.undo)
        else:
            test.assertIsNone(live.undo())
            kept.at -= 1
    elif kept.at == len(kept.states) - 1:
        test.assertRaises(NothingToRedo, live.redo)
    else:
        test.assertIsNone(live.redo())
        kept.at += 1


def some_starts():
    rnd = random.Random(130)
    tables = [GOOD, RINGED, ('x',), ('.',), ('x' * 8,) * 8, ('.' * 8,) * 8, ring_alone(4), ring_alone(8), ('........',)]
    return tables + [some_table(rnd, rnd.randint(1, 8), rnd.randint(1, 8), share)
                     for share in (0.2, 0.4, 0.6, 0.8) for _ in range(5)]


class Walks(unittest.TestCase):
    def test_example(self):
        live = Live(('xx.', '.xx', '..x'))
        self.assertEqual((live.ring, live.put(2, 0), live.table, live.arrangement, len(live)),
                         (None, None, ('xx.', '.xx', 'x.x'), None, 1))
        self.assertEqual((live.strike(0, 0), live.ring, live.undo(), live.ring is None, live.redo(), live.table),
                         (None, None, None, False, None, ('.x.', '.xx', 'x.x')))

    def test_long_rows_of_calls(self):
        rnd = random.Random(131)
        for table in some_starts():
            live, kept = Live(table), Kept(table)
            check_told(self, rnd, live)
            for _ in range(120):
                drawn_call(self, rnd, live, kept)
                check_held(self, live, kept)

    def test_all_that_is_told_at_each_state(self):
        rnd = random.Random(132)
        for table in some_starts():
            live, kept = Live(table), Kept(table)
            for _ in range(25):
                drawn_call(self, rnd, live, kept)
                check_held(self, live, kept)
                check_told(self, rnd, live)
                check_held(self, live, kept)

    def test_copies_made_on_the_way(self):
        rnd = random.Random(133)
        for table in some_starts()[::2]:
            pairs = [(Live(table), Kept(table))]
            for _ in range(100):
                live, kept = rnd.choice(pairs)
                drawn_call(self, rnd, live, kept)
                if rnd.random() < 0.1 and len(pairs) < 6:
                    other = live.copy()
                    self.assertIs(type(other), Live)
                    pairs.append((other, kept.copy()))
                for one, its in pairs:
                    check_held(self, one, its)
            for one, its in pairs:
                self.check_all_back_and_forth(one, its)

    def check_all_back_and_forth(self, live, kept):
        while kept.at > 0:
            live.undo()
            kept.at -= 1
            check_held(self, live, kept)
        self.assertRaises(NothingToUndo, live.undo)
        while kept.at < len(kept.states) - 1:
            live.redo()
            kept.at += 1
            check_held(self, live, kept)
        self.assertRaises(NothingToRedo, live.redo)

    def test_each_state_told_again_behind_undo_and_redo(self):
        rnd = random.Random(134)
        for table in some_starts():
            live = Live(table)
            told = []
            for _ in range(12):
                told.append((live.table, live.ring, live.arrangement, len(live)))
                row, column = rnd.randrange(len(table)), rnd.randrange(len(table[0]))
                (live.strike if has(live.table, row, column) else live.put)(row, column)
            for before in reversed(told):
                live.undo()
                self.assertEqual((live.table, live.ring, live.arrangement, len(live)), before)
            for before in told[1:]:
                live.redo()
                self.assertEqual((live.table, live.ring, live.arrangement, len(live)), before)


class Calls(unittest.TestCase):
    def test_a_put_or_strike_ends_what_can_be_done_again(self):
        for call, row in (('put', 1), ('strike', 0)):
            live = Live(('x.', '..'))
            live.put(0, 1)
            live.put(1, 1)
            live.undo()
            live.undo()
            getattr(live, call)(row, 0)
            self.assertRaises(NothingToRedo, live.redo)
            self.assertEqual(len(live), 1)
            live.undo()
            self.assertEqual((live.table, len(live)), (('x.', '..'), 0))
            live.redo()
            self.assertRaises(NothingToRedo, live.redo)

    def test_refused_calls_change_nothing(self):
        live = Live(('x.', '.x'))
        live.put(0, 1)
        live.strike(1, 1)
        live.undo()
        refused = [(KnownTick, lambda: live.put(0, 0)), (UnknownTick, lambda: live.strike(1, 0)),
                   (InvalidIndex, lambda: live.put(2, 0)), (InvalidIndex, lambda: live.put(0, 2)),
                   (InvalidIndex, lambda: live.strike(-1, 0)), (InvalidIndex, lambda: live.strike(0, None)),
                   (InvalidPrices, lambda: live.paper((1,), (1, 1))), (InvalidFines, lambda: live.paper((1, 1), (1,)))]
        for error, call in refused:
            self.assertRaises(error, call)
            self.assertEqual((live.table, len(live)), (('xx', '.x'), 1))
        live.redo()
        self.assertEqual((live.table, len(live)), (('xx', '..'), 2))
        for error, call in refused + [(NothingToRedo, live.redo)]:
            if error is not UnknownTick:
                self.assertRaises(error, call)
        live.undo()
        live.undo()
        self.assertRaises(NothingToUndo, live.undo)
        self.assertEqual((live.table, len(live)), (('x.', '.x'), 0))
        live.redo()
        live.redo()
        self.assertEqual((live.table, len(live)), (('xx', '..'), 2))

    def test_wrong_indexes_of_either_kind(self):
        # Taken for indexes, some of the wrong ones would meet a tick, and some a blank.
        for table in (('xx.', '...'), ('..x', 'xxx')):
            live = Live(table)
            for wrong in WRONG_INDEXES + wrong_everywhere() + [3, 2]:
                before = copy.deepcopy(wrong)
                for call in (live.put, live.strike):
                    with self.subTest(wrong=repr(wrong)[:80]):
                        if not (type(wrong) is int and wrong in (0, 1)):
                            for column in (0, 1, 2, 3, None, True):
                                self.assertRaises(InvalidIndex, call, wrong, column)
                        if not (type(wrong) is int and wrong in (0, 1, 2)):
                            for row in (0, 1, 2, None, False):
                                self.assertRaises(InvalidIndex, call, row, wrong)
                self.assertEqual(wrong, before)
            self.assertEqual((live.table, len(live)), (table, 0))

    def test_rows_and_columns_are_not_exchanged(self):
        live = Live(('....', '....'))
        live.put(1, 3)
        self.assertEqual(live.table, ('....', '...x'))
        self.assertRaises(InvalidIndex, live.put, 3, 1)
        self.assertRaises(InvalidIndex, live.put, 2, 0)
        self.assertRaises(InvalidIndex, live.put, 0, 4)
        live.strike(1, 3)
        self.assertEqual((live.table, len(live)), (('....', '....'), 2))

    def test_every_place_of_the_greatest_table(self):
        live = Live(('.' * 8,) * 8)
        for row in range(8):
            for column in range(8):
                self.assertIsNone(live.put(row, column))
                self.assertRaises(KnownTick, live.put, row, column)
        self.assertEqual((live.table, len(live)), (('x' * 8,) * 8, 64))
        for row in range(8):
            for column in range(8):
                self.assertIsNone(live.strike(row, column))
                self.assertRaises(UnknownTick, live.strike, row, column)
        self.assertEqual((live.table, len(live)), (('.' * 8,) * 8, 128))
        for _ in range(128):
            live.undo()
        self.assertRaises(NothingToUndo, live.undo)

    def test_two_live_tables_do_not_touch_one_another(self):
        one, two = Live(GOOD), Live(GOOD)
        one.strike(0, 0)
        self.assertEqual((two.table, len(two)), (GOOD, 0))
        self.assertRaises(NothingToUndo, two.undo)
        two.put(0, 2)
        one.undo()
        self.assertRaises(NothingToRedo, two.redo)
        self.assertEqual((one.table, two.table), (GOOD, ('xxx', '.xx', 'xxx')))

    def test_copy_has_the_same_calls_to_take_back_and_to_do_again(self):
        live = Live(('..',))
        live.put(0, 0)
        live.put(0, 1)
        live.undo()
        other = live.copy()
        self.assertEqual((other.table, len(other)), (('x.',), 1))
        live.strike(0, 0)
        other.redo()
        self.assertEqual((other.table, len(other), live.table, len(live)), (('xx',), 2, ('..',), 2))
        self.assertRaises(NothingToRedo, live.redo)
        other.undo()
        other.undo()
        self.assertEqual((other.table, live.table), (('..',), ('..',)))
        self.assertRaises(NothingToUndo, other.undo)
        self.assertEqual(len(live), 2)

    def test_wrong_tables(self):
        check_wrong_tables(self, Live)

    def test_by_name(self):
        live = Live(table=('..',))
        live.put(column=1, row=0)
        self.assertEqual(live.table, ('.x',))
        live.strike(column=1, row=0)
        self.assertEqual(live.table, ('..',))
        self.assertTrue(judge_paper(('..',), (1, 2), (3,), live.paper(fines=(3,), prices=(1, 2))))
        with self.assertRaises(InvalidTable):
            Live(table=['..'])

    def test_properties_are_no_calls(self):
        for name in ('table', 'ring', 'arrangement'):
            self.assertIsInstance(vars(Live)[name], property)


class Papers(unittest.TestCase):
    def test_errors_in_their_order(self):
        good, ringed = Live(('xx.', '.xx')), Live(('xx.', '.xx', 'x.x', '...'))
        prices, fines = (1, 2, 999), (4, 5)
        for wrong in wrong_amounts(prices):
            before = copy.deepcopy(wrong)
            with self.subTest(prices=repr(wrong)[:80]):
                self.assertRaises(InvalidPrices, good.paper, wrong, fines)
                self.assertRaises(InvalidPrices, good.paper, wrong, (4, 1000))
                self.assertRaises(InvalidPrices, good.paper, wrong, wrong)
                self.assertRaises(HasRing, ringed.paper, wrong, fines)
                self.assertRaises(HasRing, ringed.paper, wrong, wrong)
            self.assertEqual(wrong, before)
        for wrong in wrong_amounts(fines):
            before = copy.deepcopy(wrong)
            with self.subTest(fines=repr(wrong)[:80]):
                self.assertRaises(InvalidFines, good.paper, prices, wrong)
                self.assertRaises(InvalidPrices, good.paper, prices[:2] + (-1,), wrong)
                self.assertRaises(HasRing, ringed.paper, prices, wrong)
            self.assertEqual(wrong, before)
        self.assertRaises(HasRing, ringed.paper, prices, fines + (0, 0))

    def test_has_ring_comes_and_goes(self):
        live = Live(('xx.', '.xx', '..x'))
        self.assertTrue(judge_paper(live.table, (1, 1, 1), (2, 2, 2), live.paper((1, 1, 1), (2, 2, 2))))
        live.put(2, 0)
        self.assertRaises(HasRing, live.paper, (1, 1, 1), (2, 2, 2))
        self.assertRaises(HasRing, live.paper, (1, 1, 1), (2, 2))
        live.undo()
        self.assertTrue(judge_paper(live.table, (1, 1, 1), (2, 2, 2), live.paper((1, 1, 1), (2, 2, 2))))
        live.redo()
        self.assertRaises(HasRing, live.paper, (1, 1, 1), (2, 2, 2))
        live.put(2, 1)
        self.assertTrue(judge_paper(live.table, (1, 1, 1), (2, 2, 2), live.paper((1, 1, 1), (2, 2, 2))))

    def test_a_ring_with_a_paper_has_none_here(self):
        # The even ring has a paper as [15] tells, but [21] refuses any table with a ring.
        table, ones, twos = ring_alone(4), (1,) * 4, (2,) * 4
        self.assertIsNotNone(paper(table, ones, twos))
        self.assertRaises(HasRing, Live(table).paper, ones, twos)

    def test_same_as_of_the_table(self):
        rnd = random.Random(135)
        for table in rnd.sample(many_tables(), 120):
            live = Live(table)
            self.assertEqual(live.ring is None, ring(table) is None)
            self.assertEqual(live.ring is None, live.arrangement is not None)
            if live.ring is None:
                prices, fines = some_amounts(rnd, len(table[0]), 20), some_amounts(rnd, len(table), 20)
                given = copy.deepcopy((prices, fines))
                found = live.paper(prices, fines)
                self.assertEqual((prices, fines), given)
                self.assertEqual(found, live.paper(prices, fines))
                self.assertEqual(sum(found[1]), sum(paper(table, prices, fines)[1]))
