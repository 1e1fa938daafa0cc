"""What the document promises over the whole program: [2], and that what is told by one road fits each other one."""

import copy
import importlib
import random
import unittest
from itertools import permutations, product

from tests.cost_judges import judge_paper
from tests.cost_samples import any_priced, ringless_priced, small_priced, some_amounts
from tests.samples import GOOD, RINGED, many_tables, ring_alone, squareless_table
from tests.test_language import CLASSES, INTERFACE
from tests.tree_judges import some_balls, some_trees
from ticklay.arrangements import arrangement, is_arrangement, squares
from ticklay.cheapest import cheapest, gap, heaviest, paper
from ticklay.choices import cost, is_paper
from ticklay.desks import Desk
from ticklay.dues import is_worth_paper, worth_paper
from ticklay.errors import (InvalidArrangement, InvalidBalls, InvalidColumns, InvalidFines, InvalidIndex, InvalidLines,
                            InvalidOrder, InvalidPrices, InvalidSquare, InvalidTable, InvalidTree, ParseError)
from ticklay.going import go
from ticklay.ladders import ladder
from ticklay.lexical import lexical
from ticklay.live import Live
from ticklay.nests import core, taken_away
from ticklay.rings import is_ring, odd_ring, ring
from ticklay.roads import ball_order, by_nests
from ticklay.sheets import is_right, paper_sheet, ring_sheet
from ticklay.shell import Shell
from ticklay.tables import part, turned
from ticklay.texts import format_table, parse_table
from ticklay.trees import ball_table
from ticklay.worth import in_each, in_some, worth

# One right argument for each parameter; those that mean another thing in one function stand below.
ARGUMENTS = {
    'table': GOOD, 'rows': (2, 0), 'columns': (1, 2), 'text': 'x.\n.x', 'prices': (2, 3, 1), 'fines': (5, 4, 6),
    'choice': (0, 2), 'arrangement': ((0, 1, 2), (0, 1, 2)), 'column': 1, 'tree': (0, 0, 1), 'node': 3,
    'other': GOOD[::-1], 'balls': ((0, 1), (3, 1), (2, 2)), 'order': ((0, 2, 1), (0, 1, 2)), 'square': (0, 1, 0, 1),
    'thing': GOOD,
}
OTHER_ARGUMENTS = {
    'far': {'other': 2}, 'ladder': {'table': RINGED}, 'is_ring': {'table': RINGED, 'thing': ((0, 1, 2), (0, 1, 2))},
    'ring': {'table': RINGED}, 'odd_ring': {'table': RINGED}, 'fewest_put': {'table': ring_alone(4)},
    'fewest_strikes': {'table': ring_alone(4)}, 'squares': {'table': GOOD[::-1]}, 'by_nests': {'columns': (2, 0, 1)},
    'is_arrangement': {'thing': ((0, 1, 2), (0, 1, 2))}, 'is_lexical': {'thing': ((0, 1, 2), (0, 2, 1))},
    'are_weights': {'thing': (2, 1, 0)}, 'is_paper': {'thing': ((0, 2), (2, 1, 0))}, 'is_tree': {'thing': (0, 0, 1)},
    'is_match': {'thing': ((2, 1, 0), (0, 1, 2))}, 'is_worth_paper': {'thing': (3, (1,), (0, 2), (2, 1, 0))},
    'is_right': {'text': 'x\npaper 3 2 - 2'}, 'part': {'columns': (2, 1)},
}
# The error of a wrong object for each parameter; things raise none.
ERRORS = {
    'table': InvalidTable, 'rows': InvalidLines, 'columns': InvalidColumns, 'text': ParseError, 'prices': InvalidPrices,
    'fines': InvalidFines, 'choice': InvalidColumns, 'arrangement': InvalidArrangement, 'column': InvalidIndex,
    'tree': InvalidTree, 'node': InvalidIndex, 'other': InvalidTable, 'balls': InvalidBalls, 'order': InvalidOrder,
    'square': InvalidSquare,
}
OTHER_ERRORS = {'far': {'other': InvalidIndex}, 'part': {'columns': InvalidLines}}

METHODS = {
    'put': {'row': 0, 'column': 2}, 'strike': {'row': 0, 'column': 1},
    'paper': {'prices': (2, 3, 1), 'fines': (5, 4, 6)}, 'price': {'column': 1, 'number': 7},
    'fine': {'row': 2, 'number': 8}, 'run': {'line': 'open a xx/.x'},
}
MAKERS = {'Live': {'table': GOOD}, 'Shell': {}, 'Desk': {'table': GOOD, 'prices': (2, 3, 1), 'fines': (5, 4, 6)}}


def all_functions():
    """Each function of the interface, with one right argument for each of its parameters."""
    found = []
    for file, functions in INTERFACE.items():
        for name, parameters in functions.items():
            told = dict(ARGUMENTS, **OTHER_ARGUMENTS.get(name, {}))
            call = getattr(importlib.import_module('ticklay.' + file), name)
            found.append((name, call, {parameter: told[parameter] for parameter in parameters}))
    return found


def held(thing):
    """What a live table, a shell or a desk holds, as far as it tells."""
    if type(thing) is Live:
        return thing.table, len(thing)
    if type(thing) is Desk:
        return thing.table, thing.prices, thing.fines, thing.trials, len(thing)
    if type(thing) is Shell:
        return thing.run('tables')
    return thing


def returned_things():
    """Things that calls returned, none of which may stand for a table, an index and so on."""
    live, desk, shell = Live(GOOD), Desk(GOOD, (2, 3, 1), (5, 4, 6)), Shell()
    shell.run('open a x')
    return [live, desk, shell, live.copy(), desk.copy(), desk.best(), live.ring, live.arrangement, squares(GOOD[::-1]),
            ring(RINGED), lexical(RINGED), worth_paper(GOOD, (2, 3, 1), (5, 4, 6), 1), ring_sheet(GOOD),
            shell.run('tables'), taken_away(GOOD), cheapest(GOOD, (2, 3, 1), (5, 4, 6)), is_ring(GOOD, None),
            (live, live), [live], {'x': desk}, (GOOD, desk)]


def may_stand(name, parameter, thing):
    """Whether one of these things may be a right one after all."""
    if name == 'is_right':
        return thing == ring_sheet(GOOD)
    return parameter in ('order', 'arrangement') and type(thing) is tuple


class ByName(unittest.TestCase):
    def test_each_function_in_each_sequence_of_its_names(self):
        for name, call, told in all_functions():
            expected = call(*copy.deepcopy(list(told.values())))
            for names in permutations(told):
                with self.subTest(name=name, names=names):
                    self.assertEqual(call(**{one: told[one] for one in names}), expected)
            for many in range(len(told)):
                ahead, behind = list(told)[:many], list(told)[many:]
                for names in permutations(behind):
                    found = call(*[told[one] for one in ahead], **{one: told[one] for one in names})
                    self.assertEqual(found, expected, name)

    def test_each_class_and_method_in_each_sequence_of_its_names(self):
        for file, classes in CLASSES.items():
            for name, (methods, _) in classes.items():
                made = getattr(importlib.import_module('ticklay.' + file), name)
                for names in permutations(MAKERS[name]):
                    self.assertEqual(held(made(**{one: MAKERS[name][one] for one in names})),
                                     held(made(*MAKERS[name].values())))
                for method in methods:
                    if not method.startswith('__'):
                        self.check_method(made, name, method)

    def check_method(self, made, name, method):
        told = METHODS.get(method, {})
        before = self.ready(made, name, method)
        expected = getattr(before, method)(*told.values())
        for names in permutations(told):
            thing = self.ready(made, name, method)
            with self.subTest(name=name, method=method, names=names):
                found = getattr(thing, method)(**{one: told[one] for one in names})
                self.assertEqual(held(found), held(expected))
                self.assertEqual(held(thing), held(before))

    def ready(self, made, name, method):
        """An object for which a method has something to do."""
        thing = made(**MAKERS[name])
        if method in ('undo', 'redo'):
            thing.strike(2, 0)
        if method == 'redo':
            thing.undo()
        if method in ('keep', 'drop'):
            thing.begin()
        return thing

    def test_calls_without_a_result_return_none(self):
        for made, name in ((Live, 'Live'), (Desk, 'Desk')):
            methods = ['put', 'strike', 'undo', 'redo'] + ['price', 'fine', 'begin', 'keep', 'drop'] * (made is Desk)
            for method in methods:
                self.assertIsNone(getattr(self.ready(made, name, method), method)(*METHODS.get(method, {}).values()))


class GeneralRules(unittest.TestCase):
    def test_several_errors_the_one_listed_first(self):
        for name, call, told in all_functions():
            errors = dict(ERRORS, **OTHER_ERRORS.get(name, {}))
            names = [one for one in told if one != 'thing']
            for wrong in product((True, False), repeat=len(names)):
                first = [one for one, is_wrong in zip(names, wrong) if is_wrong][:1]
                for object_ in (None, True, [], {}, -1, (), ((),), Live(GOOD)):
                    given = dict(told)
                    for one, is_wrong in zip(names, wrong):
                        if is_wrong:
                            given[one] = object_
                    if object_ == () and first and first[0] in ('tree', 'choice', 'columns'):
                        continue
                    with self.subTest(name=name, given=repr(given)[:120]):
                        if first:
                            self.assertRaises(errors[first[0]], call, **given)
                        else:
                            call(**given)

    def test_things_that_calls_returned_are_any_objects(self):
        for name, call, told in all_functions():
            errors = dict(ERRORS, **OTHER_ERRORS.get(name, {}))
            for one in told:
                for thing in returned_things():
                    given = dict(told, **{one: thing})
                    before = held(thing)
                    with self.subTest(name=name, one=one, thing=repr(thing)[:80]):
                        if one == 'thing':
                            self.assertIs(type(call(**given)), bool)
                        elif not may_stand(name, one, thing):
                            self.assertRaises(errors[one], call, **given)
                    self.assertEqual(held(thing), before)

    def test_objects_refuse_what_calls_returned(self):
        for thing in returned_things():
            self.assertRaises(InvalidTable, Live, thing)
            self.assertRaises(InvalidTable, Desk, thing, thing, thing)
            self.assertRaises(InvalidPrices, Desk, GOOD, thing, thing)
            self.assertRaises(InvalidFines, Desk, GOOD, (1, 2, 3), thing)
            for made in (Live(GOOD), Desk(GOOD, (1, 2, 3), (4, 5, 6))):
                for call in (made.put, made.strike):
                    self.assertRaises(InvalidIndex, call, thing, 0)
                    self.assertRaises(InvalidIndex, call, 0, thing)
                self.assertEqual((made.table, len(made)), (GOOD, 0))

    def test_what_tells_whether_tells_a_bool(self):
        for name, call, told in all_functions():
            if name.startswith('is_') or name.startswith('are_'):
                self.assertIs(call(**told), True, name)
                if 'thing' in told:
                    things = [None, True, 0, 1, '', 'x', (), [], {}, GOOD, [GOOD], (told['thing'],)]
                    for thing in things + [list(told['thing'])]:
                        if thing != told['thing'] and not (name == 'is_tree' and thing == ()):
                            self.assertIs(call(**dict(told, thing=thing)), False, (name, thing))

    def test_what_is_passed_stays_and_lists_are_new(self):
        lists = 0
        for name, call, told in all_functions():
            given = copy.deepcopy(told)
            first, second = call(**given), call(**given)
            self.assertEqual(given, told, name)
            self.assertEqual((type(first), first), (type(second), second), name)
            if type(first) is list:
                lists += 1
                self.assertIsNot(first, second)
                first.clear()
                self.assertEqual(call(**given), second, name)
                self.assertTrue(second, name)
        self.assertEqual(lists, 6)

    def test_the_same_asked_again_behind_others(self):
        rnd = random.Random(201)
        asked = []
        for table, prices, fines in any_priced()[::4] + ringless_priced()[::6]:
            calls = [ring, odd_ring, arrangement, lexical, taken_away, core, squares, ring_sheet, turned, format_table]
            asked += [(call, (table,)) for call in calls]
            asked += [(call, (table, prices, fines)) for call in (cheapest, in_each, in_some)]
            asked.append((worth, (table, prices, fines, rnd.randrange(len(prices)))))
            if ring(table) is None:
                asked += [(call, (table, prices, fines)) for call in (paper, heaviest, gap, paper_sheet)]
                asked.append((worth_paper, (table, prices, fines, rnd.randrange(len(prices)))))
                asked.append((by_nests, (table, tuple(taken_away(table)))))
                asked.append((go, (table, prices, fines, arrangement(table))))
        for tree in some_trees()[::9]:
            asked.append((ball_order, (tree, some_balls(rnd, tree))))
        given = copy.deepcopy(asked_arguments(asked))
        told = [call(*arguments) for call, arguments in asked]
        again = list(enumerate(asked))
        rnd.shuffle(again)
        for at, (call, arguments) in again:
            self.assertEqual(call(*arguments), told[at], (call, arguments))
        self.assertEqual(asked_arguments(asked), given)


def asked_arguments(asked):
    return [arguments for _, arguments in asked]


def shell_of(table):
    shell = Shell()
    shell.run('open it ' + format_table(table).replace('\n', '/'))
    return shell


class EachRoadFitsEachOther(unittest.TestCase):
    def test_ring_or_arrangement(self):
        for table in many_tables()[::2]:
            live, desk = Live(table), Desk(table, (1,) * len(table[0]), (1,) * len(table))
            told = ring(table) is not None
            self.assertEqual([arrangement(table) is None, core(table) != (), live.ring is not None,
                              live.arrangement is None, desk.best() is None, shell_of(table).run('ring it') == 'yes',
                              shell_of(table).run('core it') != 'none', '\nring ' in ring_sheet(table),
                              squares(part(table, *lexical(table))) != []], [told] * 9, table)
            if told:
                self.assertIs(is_ring(table, ring(table)), True)
                self.assertRaises(InvalidColumns, by_nests, table, tuple(taken_away(table)))
                self.check_sheet_of_an_order(table, 'ring', ring(table))
                self.check_sheet_of_an_order(table, 'ring', live.ring)
            else:
                orders = (arrangement(table), live.arrangement, by_nests(table, tuple(taken_away(table))),
                          by_nests(table, arrangement(table)[1]), lexical(table))
                for order in orders:
                    self.assertIs(is_arrangement(table, order), True)
                    self.check_sheet_of_an_order(table, 'arrangement', order)

    def check_sheet_of_an_order(self, table, kind, order):
        words = [','.join(str(line) for line in lines) for lines in order]
        self.assertIs(is_right(f'{format_table(table)}\n{kind} {words[0]} {words[1]}'), True)
        self.assertIs(is_right(f'{format_table(table)}\n{kind} {words[0]} -'), False)

    def test_papers(self):
        for table, prices, fines in ringless_priced()[::3]:
            least = cheapest(table, prices, fines)[0]
            live, desk = Live(table), Desk(table, prices, fines)
            by_road = go(table, prices, fines, by_nests(table, tuple(taken_away(table))))
            for found in (paper(table, prices, fines), live.paper(prices, fines), desk.best(), by_road):
                self.assertIs(is_paper(table, prices, fines, found), True)
                self.assertEqual((cost(table, prices, fines, found[0]), sum(found[1])), (least, least))
                words = [','.join(str(number) for number in lot) or '-' for lot in (prices, fines, *found)]
                self.assertIs(is_right(format_table(table) + '\npaper ' + ' '.join(words)), True)
            line = 'cost it {} {}'.format(','.join(map(str, prices)), ','.join(map(str, fines)))
            self.assertEqual(shell_of(table).run(line), str(least))
            self.assertIs(is_right(paper_sheet(table, prices, fines)), True)
            self.assertEqual(heaviest(table, prices, fines)[0], least)

    def test_worth_papers_and_desks(self):
        for table, prices, fines in ringless_priced()[::5]:
            desk = Desk(table, prices, fines)
            for column in range(len(prices)):
                found = worth_paper(table, prices, fines, column)
                self.assertIs(is_worth_paper(table, prices, fines, column, found), True)
                self.assertEqual(found[0], worth(table, prices, fines, column))
                desk.begin()
                for number, chosen in ((found[0] - 1, {True}), (found[0], {True, False}), (found[0] + 1, {False})):
                    if 0 <= number <= 999:
                        desk.price(column, number)
                        self.assertIn(column in desk.best()[0], chosen)
                        told = (desk.table, desk.prices, desk.fines)
                        self.assertEqual({column in in_some(*told), column in in_each(*told)}, chosen)
                        self.assertEqual(worth(*told, column), found[0])
                        self.assertIs(is_worth_paper(*told, column, found), True)
                        if number == found[0]:
                            self.assertIs(is_paper(*told, (found[1], found[3])), True)
                            self.assertIs(is_paper(*told, (found[2], found[3])), True)
                desk.drop()

    def test_trees(self):
        rnd = random.Random(202)
        for tree in some_trees()[::3]:
            balls = some_balls(rnd, tree)
            table, order = ball_table(tree, balls), ball_order(tree, balls)
            self.assertIs(is_arrangement(table, order), True)
            self.assertIs(is_arrangement(table, by_nests(table, order[1])), True)
            prices, fines = some_amounts(rnd, len(table[0]), 99), some_amounts(rnd, len(table), 99)
            found = go(table, prices, fines, order)
            self.assertIs(is_paper(table, prices, fines, found), True)
            self.assertEqual(sum(found[1]), sum(Desk(table, prices, fines).best()[1]))
            self.assertEqual(shell_of(table).run('ring it'), 'no')

    def test_ladders_and_sheets(self):
        for table in many_tables()[::5]:
            order = lexical(table)
            for square in squares(part(table, *order))[:3]:
                rows, columns = ladder(table, order, square)
                found = ring(part(table, rows, columns))
                told = (tuple(rows[at] for at in found[0]), tuple(columns[at] for at in found[1]))
                self.assertIs(is_ring(table, told), True)
                self.check_sheet_of_an_order(table, 'ring', told)
                self.assertLessEqual(set(columns), set(core(table)))

    def test_texts_and_tables_there_and_back(self):
        for table in many_tables()[::2]:
            text = format_table(table)
            self.assertEqual(parse_table(text), table)
            self.assertEqual(format_table(parse_table(text)), text)
            self.assertEqual(parse_table(shell_of(table).run('show it').replace('/', '\n')), table)
            self.assertEqual(parse_table(ring_sheet(table).rpartition('\n')[0]), table)
            self.assertEqual((Live(table).table, turned(turned(table))), (table, table))


class BackAndForth(unittest.TestCase):
    def told_of(self, desk):
        table, prices, fines = desk.table, desk.prices, desk.fines
        told = [table, prices, fines, desk.best(), len(desk), desk.trials, cheapest(table, prices, fines),
                in_some(table, prices, fines), ring_sheet(table), core(table)]
        if desk.best() is not None:
            told.append(paper_sheet(table, prices, fines))
            self.assertTrue(judge_paper(table, prices, fines, desk.best()))
        return told

    def test_desks(self):
        rnd = random.Random(203)
        for table, prices, fines in small_priced(9)[::5] + any_priced()[::15]:
            desk = Desk(table, prices, fines)
            for trial in range(3):
                told = [self.told_of(desk)]
                for _ in range(5):
                    row, column = rnd.randrange(len(table)), rnd.randrange(len(prices))
                    turn = desk.strike if desk.table[row][column] == 'x' else desk.put
                    number = rnd.randint(0, 999)
                    rnd.choice((lambda: turn(row, column), lambda: desk.price(column, number),
                                lambda: desk.fine(row, number)))()
                    told.append(self.told_of(desk))
                for before in told[-2::-1]:
                    desk.undo()
                    self.assertEqual(self.told_of(desk), before)
                for before in told[1:]:
                    desk.redo()
                    self.assertEqual(self.told_of(desk), before)
                if trial < 2:
                    desk.begin()
            desk.keep()
            desk.keep()
            self.assertEqual((len(desk), desk.trials), (6, 0))
            for _ in range(6):
                desk.undo()
            self.assertEqual((desk.table, desk.prices, desk.fines), (table, prices, fines))

    def test_live_tables_and_shells(self):
        rnd = random.Random(204)
        for table in many_tables()[::12] + [squareless_table(rnd, 8, 8, 0.3)]:
            live, shell = Live(table), shell_of(table)
            told = []
            for at in range(7):
                told.append(self.told_of_live(live, shell))
                row, column = rnd.randrange(len(table)), rnd.randrange(len(table[0]))
                kind = 'strike' if live.table[row][column] == 'x' else 'put'
                getattr(live, kind)(row, column)
                shell.run(f'{kind} it {row} {column}')
            for before in told[::-1]:
                live.undo()
                shell.run('undo it')
                self.assertEqual(self.told_of_live(live, shell), before)
            for before in told[1:]:
                live.redo()
                shell.run('redo it')
                self.assertEqual(self.told_of_live(live, shell), before)

    def told_of_live(self, live, shell):
        answers = [shell.run(line) for line in ('show it', 'ring it', 'squares it', 'core it')]
        self.assertEqual(answers[0], '/'.join(live.table))
        return answers, live.table, live.ring, live.arrangement, len(live), ring_sheet(live.table)
