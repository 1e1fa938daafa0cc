import copy
import random
import unittest

from tests.cost_judges import judge_paper, least_by_hand
from tests.cost_samples import any_priced, check_amount_errors, priced, ringless_priced, some_amounts
from tests.judges import has
from tests.samples import RINGED, exchanged_at, ring_alone, some_table, wrong_everywhere
from tests.test_live import WRONG_INDEXES, has_ring_by_hand
from ticklay.cheapest import cheapest
from ticklay.desks import Desk
from ticklay.errors import (InvalidIndex, InvalidNumber, InvalidTable, KnownTick, NothingToRedo, NothingToUndo, NoTrial,
                            TooDeep, UnknownTick)

WRONG_NUMBERS = [1000, 1001, -1, -999, 10 ** 39, -10 ** 39, True, False, None, '', '5', (), (5,), [], [5], {}, {5: 5}]


class Pile:
    """What a desk should hold: for each trial, and outside of all, its states and which of them it is in."""

    def __init__(self, table, prices, fines):
        self.lists = [[(table, prices, fines)]]
        self.at = [0]

    def state(self):
        return self.lists[-1][self.at[-1]]

    def change(self, state):
        del self.lists[-1][self.at[-1] + 1:]
        self.lists[-1].append(state)
        self.at[-1] += 1

    def begin(self):
        self.lists.append([self.state()])
        self.at.append(0)

    def drop(self):
        self.lists.pop()
        self.at.pop()

    def keep(self):
        state, stand = self.state(), self.at[-1]
        self.drop()
        if stand > 0:
            self.change(state)


def exchanged(amounts, at, amount):
    found = list(amounts)
    found[at] = amount
    return tuple(found)


def check_held(test, desk, pile):
    test.assertEqual((desk.table, desk.prices, desk.fines), pile.state())
    test.assertEqual((desk.trials, len(desk)), (len(pile.lists) - 1, pile.at[-1]))
    test.assertEqual((type(desk.table), type(desk.prices), type(desk.fines), type(desk.trials)),
                     (tuple, tuple, tuple, int))


def check_best(test, desk):
    """Check the best paper of a desk by the words of the document."""
    found = desk.best()
    table, prices, fines = desk.table, desk.prices, desk.fines
    test.assertEqual(found is None, has_ring_by_hand(table), table)
    if found is not None:
        test.assertTrue(judge_paper(table, prices, fines, found), (table, prices, fines))


class WithWalks(unittest.TestCase):
    KINDS = ['put', 'strike', 'put', 'strike', 'price', 'fine', 'undo', 'undo', 'undo', 'redo', 'redo',
             'begin', 'begin', 'keep', 'drop', 'wrong']

    def drawn_call(self, rnd, desk, pile):
        """Draw one call, also one that is refused, and do it to a desk and to what it should hold."""
        table, prices, fines = pile.state()
        row, column = rnd.randrange(len(table)), rnd.randrange(len(prices))
        number = rnd.choice((0, 1, 999, rnd.randint(0, 999), prices[column], fines[row]))
        kind = rnd.choice(self.KINDS)
        if kind == 'wrong':
            self.refused_calls(rnd, desk, row, column, number)
        elif kind in ('put', 'strike'):
            self.put_or_strike(desk, pile, kind, row, column)
        elif kind == 'price':
            self.assertIsNone(desk.price(column, number))
            pile.change((table, exchanged(prices, column, number), fines))
        elif kind == 'fine':
            self.assertIsNone(desk.fine(row, number))
            pile.change((table, prices, exchanged(fines, row, number)))
        elif kind in ('undo', 'redo'):
            self.back_or_forth(desk, pile, kind)
        else:
            self.trial_call(desk, pile, kind)
        return kind

    def refused_calls(self, rnd, desk, row, column, number):
        for wrong in rnd.sample(WRONG_INDEXES, 2):
            for places in ((wrong, column), (row, wrong), (wrong, wrong)):
                self.assertRaises(InvalidIndex, desk.put, *places)
                self.assertRaises(InvalidIndex, desk.strike, *places)
            for any_number in (number, 1000, wrong):
                self.assertRaises(InvalidIndex, desk.price, wrong, any_number)
                self.assertRaises(InvalidIndex, desk.fine, wrong, any_number)
        wrong = rnd.choice(WRONG_NUMBERS)
        self.assertRaises(InvalidNumber, desk.price, column, wrong)
        self.assertRaises(InvalidNumber, desk.fine, row, wrong)

    def put_or_strike(self, desk, pile, kind, row, column):
        table, prices, fines = pile.state()
        if has(table, row, column) == (kind == 'put'):
            self.assertRaises(KnownTick if kind == 'put' else UnknownTick, getattr(desk, kind), row, column)
        else:
            self.assertIsNone(getattr(desk, kind)(row, column))
            pile.change((exchanged_at(table, row, column, 'x' if kind == 'put' else '.'), prices, fines))

    def back_or_forth(self, desk, pile, kind):
        at = pile.at[-1] + (-1 if kind == 'undo' else 1)
        if 0 <= at < len(pile.lists[-1]):
            self.assertIsNone(getattr(desk, kind)())
            pile.at[-1] = at
        else:
            self.assertRaises(NothingToUndo if kind == 'undo' else NothingToRedo, getattr(desk, kind))

    def trial_call(self, desk, pile, kind):
        if kind == 'begin' and len(pile.lists) == 5:
            self.assertRaises(TooDeep, desk.begin)
        elif kind != 'begin' and len(pile.lists) == 1:
            self.assertRaises(NoTrial, getattr(desk, kind))
        else:
            self.assertIsNone(getattr(desk, kind)())
            getattr(pile, kind)()

    def some_starts(self):
        rnd = random.Random(180)
        tables = [('x',), ('.',), RINGED, ring_alone(8), ('x' * 8,) * 8, ('.' * 8,) * 8, ('........',), ('x',) * 8]
        tables += [some_table(rnd, rnd.randint(1, 8), rnd.randint(1, 8), share)
                   for share in (0.2, 0.4, 0.6) for _ in range(4)]
        return [priced(rnd, table, rnd.choice((1, 9, 999))) for table in tables]


class Walks(WithWalks):
    def test_example(self):
        desk = Desk(('xx', '.x'), (3, 4), (9, 2))
        self.assertEqual((desk.best()[0], sum(desk.best()[1]), desk.price(0, 1), desk.begin(), desk.fine(1, 9),
                          desk.put(1, 0), len(desk), desk.trials), ((1,), 4, None, None, None, None, 2, 1))
        self.assertEqual((desk.keep(), len(desk), desk.table, desk.best()[0], desk.undo(), desk.table, desk.fines,
                          desk.prices), (None, 2, ('xx', 'xx'), (0,), None, ('xx', '.x'), (9, 2), (1, 4)))

    def test_long_rows_of_calls(self):
        rnd = random.Random(181)
        met, deepest = set(), 0
        for start in self.some_starts():
            desk, pile = Desk(*start), Pile(*start)
            for _ in range(400):
                met.add((self.drawn_call(rnd, desk, pile), desk.trials))
                check_held(self, desk, pile)
                deepest = max(deepest, desk.trials)
        self.assertEqual(deepest, 4)
        self.assertLessEqual({(kind, trials) for kind in ('put', 'price', 'fine', 'undo', 'redo', 'wrong')
                              for trials in range(5)}, met)

    def test_the_best_paper_at_each_state(self):
        rnd = random.Random(182)
        for start in self.some_starts():
            desk, pile = Desk(*start), Pile(*start)
            for _ in range(40):
                check_best(self, desk)
                check_held(self, desk, pile)
                self.drawn_call(rnd, desk, pile)

    def test_copies_made_on_the_way_and_within_trials(self):
        rnd = random.Random(183)
        within = set()
        for start in self.some_starts():
            pairs = [(Desk(*start), Pile(*start))]
            for _ in range(150):
                desk, pile = rnd.choice(pairs)
                self.drawn_call(rnd, desk, pile)
                if rnd.random() < 0.08 and len(pairs) < 6:
                    other = desk.copy()
                    self.assertIs(type(other), Desk)
                    pairs.append((other, copy.deepcopy(pile)))
                    within.add(desk.trials)
                for one, its in pairs:
                    check_held(self, one, its)
            for one, its in pairs:
                self.check_out_of_all_trials(one, its)
        self.assertEqual(within, {0, 1, 2, 3, 4})

    def check_out_of_all_trials(self, desk, pile):
        """Go back and forth in each trial, and leave it, until all are closed."""
        while True:
            for kind in ['undo'] * (pile.at[-1] + 1) + ['redo'] * (len(pile.lists[-1]) + 1) + ['undo']:
                self.back_or_forth(desk, pile, kind)
                check_held(self, desk, pile)
            if len(pile.lists) == 1:
                break
            self.trial_call(desk, pile, 'keep' if len(pile.lists) > 3 else 'drop')
            check_held(self, desk, pile)
        self.assertRaises(NoTrial, desk.keep)
        self.assertRaises(NoTrial, desk.drop)

    def test_each_state_told_again_behind_undo_and_redo(self):
        rnd = random.Random(184)
        for table, prices, fines in self.some_starts():
            desk = Desk(table, prices, fines)
            told = []
            for _ in range(10):
                told.append((desk.table, desk.prices, desk.fines, desk.best(), len(desk)))
                row, column = rnd.randrange(len(table)), rnd.randrange(len(prices))
                turn = desk.strike if has(desk.table, row, column) else desk.put
                number = rnd.randint(0, 999)
                rnd.choice((lambda: desk.price(column, number), lambda: desk.fine(row, number),
                            lambda: turn(row, column)))()
            for before in reversed(told):
                desk.undo()
                self.assertEqual((desk.table, desk.prices, desk.fines, desk.best(), len(desk)), before)
            for before in told[1:]:
                desk.redo()
                self.assertEqual((desk.table, desk.prices, desk.fines, desk.best(), len(desk)), before)


class Trials(unittest.TestCase):
    def setUp(self):
        self.desk = Desk(('..', '..'), (1, 2), (3, 4))

    def held(self):
        return self.desk.table, self.desk.prices, self.desk.fines, len(self.desk), self.desk.trials

    def redo_all(self):
        many = 0
        while True:
            try:
                self.desk.redo()
            except NothingToRedo:
                return many
            many += 1

    def test_calls_ahead_of_a_trial_are_not_taken_back_and_not_done_again(self):
        self.desk.put(0, 0)
        self.desk.price(0, 5)
        self.desk.undo()
        self.desk.begin()
        self.assertEqual(self.held(), (('x.', '..'), (1, 2), (3, 4), 0, 1))
        self.assertRaises(NothingToUndo, self.desk.undo)
        self.assertRaises(NothingToRedo, self.desk.redo)
        self.desk.put(1, 1)
        self.desk.undo()
        self.assertRaises(NothingToUndo, self.desk.undo)
        self.desk.redo()
        self.assertRaises(NothingToRedo, self.desk.redo)
        self.assertEqual(self.held(), (('x.', '.x'), (1, 2), (3, 4), 1, 1))

    def test_drop_leaves_all_as_it_was(self):
        self.desk.put(0, 0)
        self.desk.fine(1, 9)
        self.desk.undo()
        before = self.held()
        self.desk.begin()
        self.desk.price(1, 7)
        self.desk.strike(0, 0)
        self.desk.put(0, 1)
        self.desk.undo()
        self.assertIsNone(self.desk.drop())
        self.assertEqual(self.held(), before)
        self.assertEqual(self.redo_all(), 1)
        self.assertEqual(self.held(), (('x.', '..'), (1, 2), (3, 9), 2, 0))

    def test_keep_with_no_call_is_drop(self):
        self.desk.put(0, 0)
        self.desk.undo()
        self.desk.begin()
        self.assertIsNone(self.desk.keep())
        self.assertEqual(self.held(), (('..', '..'), (1, 2), (3, 4), 0, 0))
        self.desk.redo()
        self.assertEqual(self.held(), (('x.', '..'), (1, 2), (3, 4), 1, 0))

    def test_keep_with_calls_that_do_not_stand_is_drop(self):
        self.desk.put(0, 0)
        self.desk.put(1, 0)
        self.desk.undo()
        self.desk.begin()
        self.desk.price(0, 9)
        self.desk.fine(0, 9)
        self.desk.undo()
        self.desk.undo()
        self.desk.keep()
        self.assertEqual(self.held(), (('x.', '..'), (1, 2), (3, 4), 1, 0))
        self.assertEqual(self.redo_all(), 1)
        self.assertEqual(self.desk.table, ('x.', 'x.'))

    def test_keep_with_one_and_with_several_calls(self):
        for calls in (1, 2, 5):
            desk = Desk(('.',), (0,), (0,))
            desk.price(0, 50)
            desk.price(0, 60)
            desk.undo()
            desk.begin()
            for number in range(calls):
                desk.fine(0, number + 1)
            desk.fine(0, 99)
            desk.undo()
            self.assertEqual(len(desk), calls)
            desk.keep()
            self.assertEqual((desk.prices, desk.fines, len(desk), desk.trials), ((50,), (calls,), 2, 0))
            self.assertRaises(NothingToRedo, desk.redo)
            desk.undo()
            self.assertEqual((desk.prices, desk.fines, len(desk)), ((50,), (0,), 1))
            desk.redo()
            self.assertEqual((desk.prices, desk.fines, len(desk)), ((50,), (calls,), 2))
            self.assertRaises(NothingToRedo, desk.redo)
            desk.undo()
            desk.undo()
            self.assertRaises(NothingToUndo, desk.undo)
            self.assertEqual((desk.prices, desk.fines), ((0,), (0,)))

    def test_keep_of_calls_that_change_nothing_together(self):
        self.desk.begin()
        self.desk.put(0, 0)
        self.desk.strike(0, 0)
        self.desk.keep()
        self.assertEqual(self.held(), (('..', '..'), (1, 2), (3, 4), 1, 0))
        self.desk.undo()
        self.assertEqual(self.held(), (('..', '..'), (1, 2), (3, 4), 0, 0))
        self.desk.redo()
        self.assertEqual(len(self.desk), 1)

    def test_trials_within_trials(self):
        for depth in range(4):
            self.assertEqual(self.desk.trials, depth)
            self.assertIsNone(self.desk.begin())
            self.assertEqual(len(self.desk), 0)
            self.desk.price(0, depth + 10)
        self.assertRaises(TooDeep, self.desk.begin)
        self.assertEqual(self.held(), (('..', '..'), (13, 2), (3, 4), 1, 4))
        self.desk.keep()
        self.assertEqual(self.held(), (('..', '..'), (13, 2), (3, 4), 2, 3))
        self.desk.undo()
        self.assertEqual(self.held(), (('..', '..'), (12, 2), (3, 4), 1, 3))
        self.desk.redo()
        self.desk.keep()
        self.assertEqual(self.held(), (('..', '..'), (13, 2), (3, 4), 2, 2))
        self.desk.drop()
        self.assertEqual(self.held(), (('..', '..'), (10, 2), (3, 4), 1, 1))
        self.desk.keep()
        self.assertEqual(self.held(), (('..', '..'), (10, 2), (3, 4), 1, 0))
        self.desk.begin()
        self.assertEqual(self.desk.trials, 1)

    def test_keep_ends_what_can_be_done_again_around_it_alone(self):
        self.desk.put(0, 0)
        self.desk.undo()
        self.desk.begin()
        self.desk.put(0, 1)
        self.desk.undo()
        self.desk.begin()
        self.desk.put(1, 1)
        self.desk.keep()
        self.assertRaises(NothingToRedo, self.desk.redo)
        self.desk.undo()
        self.desk.keep()
        # No call stood in the trial around it, so outside of all the first one can be done again.
        self.assertEqual(self.redo_all(), 1)
        self.assertEqual(self.desk.table, ('x.', '..'))

    def test_no_trial(self):
        for call in (self.desk.keep, self.desk.drop):
            self.assertRaises(NoTrial, call)
        self.desk.begin()
        self.desk.drop()
        for call in (self.desk.keep, self.desk.drop):
            self.assertRaises(NoTrial, call)
        self.desk.put(0, 0)
        self.desk.undo()
        for call in (self.desk.keep, self.desk.drop):
            self.assertRaises(NoTrial, call)
        self.desk.redo()
        self.assertEqual(self.held(), (('x.', '..'), (1, 2), (3, 4), 1, 0))


class Calls(unittest.TestCase):
    def test_the_number_that_is_there_already_is_a_call(self):
        desk = Desk(('x.',), (1, 2), (3,))
        desk.put(0, 1)
        desk.undo()
        self.assertIsNone(desk.price(1, 2))
        self.assertEqual((desk.prices, len(desk)), ((1, 2), 1))
        self.assertRaises(NothingToRedo, desk.redo)
        self.assertIsNone(desk.fine(0, 3))
        self.assertEqual((desk.fines, len(desk)), ((3,), 2))
        desk.undo()
        desk.undo()
        self.assertRaises(NothingToUndo, desk.undo)
        desk.redo()
        desk.redo()
        self.assertRaises(NothingToRedo, desk.redo)
        self.assertEqual((desk.table, desk.prices, desk.fines, len(desk)), (('x.',), (1, 2), (3,), 2))
        desk.begin()
        desk.price(0, 1)
        desk.keep()
        self.assertEqual(len(desk), 3)

    def test_each_of_the_four_ends_what_can_be_done_again(self):
        for call in ('put', 'strike', 'price', 'fine'):
            for trials in (0, 1, 4):
                desk = Desk(('x.', '..'), (1, 2), (3, 4))
                for _ in range(trials):
                    desk.begin()
                desk.price(0, 7)
                desk.put(1, 1)
                desk.undo()
                desk.undo()
                getattr(desk, call)(*{'put': (0, 1), 'strike': (0, 0), 'price': (1, 9), 'fine': (1, 9)}[call])
                self.assertRaises(NothingToRedo, desk.redo)
                self.assertEqual(len(desk), 1)
                desk.undo()
                self.assertEqual((desk.table, desk.prices, desk.fines), (('x.', '..'), (1, 2), (3, 4)))

    def test_refused_calls_change_nothing(self):
        for trials in (0, 1, 4):
            desk = Desk(('x.', '..'), (1, 2), (3, 4))
            for _ in range(trials):
                desk.begin()
            desk.price(0, 7)
            desk.put(1, 1)
            desk.fine(0, 0)
            desk.undo()
            refused = [(KnownTick, desk.put, 0, 0), (UnknownTick, desk.strike, 0, 1), (InvalidIndex, desk.put, 2, 0),
                       (InvalidIndex, desk.strike, 0, -1), (InvalidIndex, desk.price, 2, 5),
                       (InvalidIndex, desk.fine, 2, 5), (InvalidNumber, desk.price, 0, 1000),
                       (InvalidNumber, desk.fine, 1, -1),
                       (TooDeep, desk.begin) if trials == 4 else (InvalidNumber, desk.price, 0, None),
                       (NoTrial, desk.keep) if trials == 0 else (InvalidNumber, desk.price, 0, True),
                       (NoTrial, desk.drop) if trials == 0 else (InvalidIndex, desk.fine, None, None)]
            for error, call, *told in refused:
                self.assertRaises(error, call, *told)
                self.assertEqual((desk.table, desk.prices, desk.fines, len(desk), desk.trials),
                                 (('x.', '.x'), (7, 2), (3, 4), 2, trials))
            desk.redo()
            self.assertEqual((desk.fines, len(desk)), ((0, 4), 3))
            self.assertRaises(NothingToRedo, desk.redo)
            for _ in range(3):
                desk.undo()
            self.assertRaises(NothingToUndo, desk.undo)
            for _ in range(3):
                desk.redo()
            self.assertEqual((desk.table, desk.prices, desk.fines), (('x.', '.x'), (7, 2), (0, 4)))

    def test_wrong_indexes_ahead_of_all_else(self):
        # Taken for indexes, some of the wrong ones would meet a tick, and some a blank.
        for table in (('xx.', '...'), ('..x', 'xxx')):
            desk = Desk(table, (5, 5, 5), (6, 6))
            for wrong in WRONG_INDEXES + wrong_everywhere() + [3, 4, 2]:
                before = copy.deepcopy(wrong)
                is_row = type(wrong) is int and wrong in (0, 1)
                is_column = type(wrong) is int and wrong in (0, 1, 2)
                with self.subTest(wrong=repr(wrong)[:80]):
                    for number in (0, 999, 1000, -1, None, True, [1]):
                        if not is_column:
                            self.assertRaises(InvalidIndex, desk.price, wrong, number)
                        if not is_row:
                            self.assertRaises(InvalidIndex, desk.fine, wrong, number)
                    for call in (desk.put, desk.strike):
                        for other in (0, 1, 2, None, True):
                            if not is_row:
                                self.assertRaises(InvalidIndex, call, wrong, other)
                            if not is_column:
                                self.assertRaises(InvalidIndex, call, other, wrong)
                self.assertEqual(wrong, before)
            self.assertEqual((desk.table, desk.prices, desk.fines, len(desk)), (table, (5, 5, 5), (6, 6), 0))

    def test_wrong_numbers(self):
        desk = Desk(('xx.', '...'), (5, 5, 5), (6, 6))
        for wrong in WRONG_NUMBERS + wrong_everywhere():
            if type(wrong) is int and wrong in range(1000):
                continue
            before = copy.deepcopy(wrong)
            for call in (desk.price, desk.fine):
                with self.subTest(wrong=repr(wrong)[:80]):
                    self.assertRaises(InvalidNumber, call, 0, wrong)
                    self.assertRaises(InvalidNumber, call, 1, wrong)
            self.assertEqual(wrong, before)
        self.assertEqual((desk.prices, desk.fines, len(desk)), ((5, 5, 5), (6, 6), 0))
        for number in (0, 1, 998, 999):
            desk.price(2, number)
            desk.fine(1, number)
            self.assertEqual((desk.prices, desk.fines), ((5, 5, number), (6, number)))

    def test_rows_and_columns_are_not_exchanged(self):
        desk = Desk(('....', '....'), (1, 2, 3, 4), (5, 6))
        desk.put(1, 3)
        desk.price(3, 9)
        desk.fine(1, 8)
        self.assertEqual((desk.table, desk.prices, desk.fines), (('....', '...x'), (1, 2, 3, 9), (5, 8)))
        for call, told in ((desk.put, (3, 1)), (desk.put, (2, 0)), (desk.fine, (2, 0)), (desk.price, (4, 0))):
            self.assertRaises(InvalidIndex, call, *told)

    def test_two_desks_do_not_touch_one_another(self):
        one, two = Desk(('..',), (1, 2), (3,)), Desk(('..',), (1, 2), (3,))
        one.begin()
        one.price(0, 9)
        self.assertEqual((two.prices, two.trials, len(two)), ((1, 2), 0, 0))
        self.assertRaises(NoTrial, two.drop)
        two.put(0, 0)
        one.keep()
        self.assertEqual((one.table, one.prices, two.table, two.prices), (('..',), (9, 2), ('x.',), (1, 2)))

    def test_errors(self):
        check_amount_errors(self, Desk)

    def test_by_name(self):
        desk = Desk(fines=(5, 6), prices=(1, 2), table=('..', '..'))
        desk.put(column=1, row=0)
        desk.price(number=7, column=1)
        desk.fine(number=8, row=0)
        self.assertEqual((desk.table, desk.prices, desk.fines), (('.x', '..'), (1, 7), (8, 6)))
        desk.strike(column=1, row=0)
        self.assertEqual(desk.table, ('..', '..'))
        with self.assertRaises(InvalidTable):
            Desk(prices=(1,), fines=(1,), table=['x'])

    def test_properties_are_no_calls(self):
        for name in ('table', 'prices', 'fines', 'trials'):
            self.assertIsInstance(vars(Desk)[name], property)


class Best(unittest.TestCase):
    def test_none_exactly_with_a_ring(self):
        for table, prices, fines in any_priced() + ringless_priced()[::3]:
            desk = Desk(table, prices, fines)
            check_best(self, desk)
            self.assertEqual(desk.best(), desk.best())
            if desk.best() is not None:
                self.assertEqual(sum(desk.best()[1]), least_by_hand(table, prices, fines)[0])
                self.assertEqual(sum(desk.best()[1]), cheapest(table, prices, fines)[0])

    def test_a_ring_with_a_paper_has_none_here(self):
        self.assertIsNone(Desk(ring_alone(4), (1,) * 4, (2,) * 4).best())

    def test_a_ring_comes_and_goes(self):
        desk = Desk(('xx.', '.xx', '..x'), (1, 2, 3), (4, 5, 6))
        check_best(self, desk)
        desk.begin()
        desk.put(2, 0)
        self.assertIsNone(desk.best())
        desk.price(0, 9)
        self.assertIsNone(desk.best())
        desk.undo()
        desk.undo()
        check_best(self, desk)
        desk.redo()
        self.assertIsNone(desk.best())
        desk.drop()
        self.assertIsNotNone(desk.best())

    def test_by_the_prices_and_fines_that_are_there_now(self):
        rnd = random.Random(185)
        for table, prices, fines in ringless_priced()[::6]:
            desk = Desk(table, prices, fines)
            for column, number in enumerate(some_amounts(rnd, len(prices), 999)):
                desk.price(column, number)
            for row, number in enumerate(some_amounts(rnd, len(fines), 999)):
                desk.fine(row, number)
            check_best(self, desk)
            self.assertEqual(len(desk), len(prices) + len(fines))
