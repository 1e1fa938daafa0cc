import copy
import random
import string
import unittest

from tests.cost_judges import least_by_hand
from tests.cost_samples import some_amounts
from tests.judges import has, squares_by_hand, taken_by_hand
from tests.samples import many_tables, ring_alone, some_table, wrong_everywhere
from tests.test_live import Kept, has_ring_by_hand
from ticklay.cheapest import cheapest
from ticklay.errors import (DuplicateName, InvalidFines, InvalidIndex, InvalidLine, InvalidName, InvalidPrices,
                            KnownTick, NothingToRedo, NothingToUndo, ParseError, UnknownTable, UnknownTick)
from ticklay.nests import core
from ticklay.shell import Shell

# Words that are no integers as a line writes them.
NO_INTEGERS = ['00', '01', '007', '0000000000', '1000000000', '9999999999', '-1', '-0', '+1', '+0', '1.0', '1e0', '0x0',
               '0b0', '1_0', 'a', 'x', '-', '.', '/', 'None', 'True', '0\t', '\t0', '\t', '0,', ',0', ',', "'0'", '(0)',
               '\u0660', '\u0661', '\u00b2', '\u2460', '\uff10', '\u0be6', '0\u0660', '\u00a00', '0\r', '\x0b0']

COUNTS = {'open': 2, 'close': 1, 'put': 3, 'strike': 3, 'undo': 1, 'redo': 1, 'show': 1, 'ring': 1, 'squares': 1,
          'core': 1, 'cost': 3, 'tables': 0}


def joined(numbers):
    return ','.join(str(number) for number in numbers)


class WithShell(unittest.TestCase):
    def setUp(self):
        self.shell = Shell()

    def run_ok(self, *lines):
        for line in lines:
            self.assertEqual(self.shell.run(line), 'ok', line)

    def tell(self, line, answer):
        found = self.shell.run(line)
        self.assertIs(type(found), str)
        self.assertEqual(found, answer, line)

    def refuse(self, error, *lines):
        for line in lines:
            with self.subTest(line=repr(line)[:80]):
                with self.assertRaises(error) as caught:
                    self.shell.run(line)
                self.assertIs(type(caught.exception), error)

    def refuse_text(self, line, at):
        with self.subTest(line=line[:80]):
            with self.assertRaises(ParseError) as caught:
                self.shell.run(line)
            self.assertEqual(caught.exception.line, at)


class Lines(WithShell):
    def test_example(self):
        lines = ['tables', 'open a xx./.xx/x.x', 'ring a', 'core a', 'cost a 1,1,1 2,2,2', 'strike a 0 0', 'ring a',
                 'squares a', 'show a', 'undo a']
        self.assertEqual([self.shell.run(line) for line in lines],
                         ['none', 'ok', 'yes', '0 1 2', '2', 'ok', 'no', '0', '.x./.xx/x.x', 'ok'])

    def test_no_strings(self):
        for thing in wrong_everywhere() + [(), ('tables',), ['tables'], [['tables']], {'tables': 1}, 5, self.shell]:
            before = thing if thing is self.shell else copy.deepcopy(thing)
            self.refuse(InvalidLine, thing)
            self.assertEqual(thing, before)

    def test_lines_that_are_none(self):
        self.run_ok('open a xx/x.')
        for line in ('tables', 'show a', 'put a 1 1', 'cost a 1,1 2,2', 'open b x', 'close a', 'undo a'):
            first = line.split(' ')[0]
            rest = line[len(first):]
            self.refuse(InvalidLine, ' ' + line, line + ' ', line + '\n', '\n' + line, line + ' \n', '  ' + line,
                        line + ' more', first.upper() + rest, first.title() + rest, first + 's' + rest,
                        first[:-1] + rest, line + '  more', 'x' + line, '\t' + line, first + '\t' + rest,
                        first + ' \n' + rest)
            if ' ' in line:
                for sign in ('  ', '\t', '\n', ' \n', '\n ', '\r', '\u00a0', ',', ' \t '):
                    self.refuse(InvalidLine, line.replace(' ', sign), line.replace(' ', sign, 1))
                self.refuse(InvalidLine, line.rsplit(' ', 1)[0], line.rsplit(' ', 1)[0] + ' ')
        self.refuse(InvalidLine, '', ' ', '  ', '\n', '\t', '\t\t', 'no', 'no a', 'no a b c', 'Tables', 'a', 'put',
                    'paper a 1 1', 'copy a', 'len a', 'arrangement a', 'price a 0 0', 'table a', 'run tables')
        self.tell('show a', 'xx/x.')
        self.tell('tables', 'a')

    def test_too_many_and_too_few_words(self):
        self.run_ok('open a xx/x.')
        for first, many in COUNTS.items():
            for count in range(7):
                line = ' '.join([first] + ['a', '0', '0', '0', '0', '0'][:count])
                if count != many:
                    self.refuse(InvalidLine, line)
        self.tell('show a', 'xx/x.')

    def test_invalid_lines_ahead_of_all_else(self):
        self.refuse(InvalidLine, 'show none ', 'open A no more', 'open A no ', 'put none x', 'close', 'undo none none',
                    'cost none x', 'cost none 1 1\n', ' put none 9 9', 'open NO  xX')

    def test_a_tab_is_a_sign_of_a_word(self):
        self.run_ok('open a x')
        self.refuse(UnknownTable, 'show \t', 'show a\t', 'show \ta', 'show a\ta')
        self.refuse(InvalidName, 'open \t x', 'open b\t x')
        self.refuse_text('open b x\t', 0)
        self.refuse_text('open b \t', 0)
        self.refuse(InvalidIndex, 'put a 0\t 0', 'put a 0 \t0', 'put a \t \t')
        self.refuse(InvalidPrices, 'cost a 1\t 1')
        self.refuse(InvalidFines, 'cost a 1 \t1')
        self.refuse(InvalidLine, 'put a 0\t0')

    def test_by_name(self):
        self.assertEqual(self.shell.run(line='tables'), 'none')

    def test_names_are_no_first_words(self):
        self.run_ok('open tables x', 'open ring .x')
        self.tell('tables', 'ring tables')
        self.tell('ring ring', 'no')
        self.tell('show tables', 'x')


class Names(WithShell):
    def test_names(self):
        for name in ('a', 'z', 'abcdefgh', 'zzzzzzzz', 'none', 'ok', 'open', 'x', 'xx'):
            self.run_ok('open ' + name + ' x')
        self.tell('tables', 'a abcdefgh none ok open x xx z zzzzzzzz')

    def test_no_names(self):
        names = ['abcdefghi', 'zzzzzzzzz', 'x' * 20000, 'A', 'Ab', 'aB', 'a1', '1', '0', 'a_b', '_', 'a-b', '-', 'a.b',
                 'a/b', 'a\t', '\ta', 'a\r', '{', '`', '@', '[', 'a' * 8 + '\t', "'a'"]
        # Signs that are letters, but none from a to z.
        names += ['\u00e9', '\u00e4b', '\u03b1', '\u0430', '\uff41', '\u00b5', '\u01c6', '\u00df', 'a\u0301']
        for name in names:
            self.refuse(InvalidName, 'open ' + name + ' x', 'open ' + name + ' no', 'open ' + name + ' xx/x')
            self.refuse(UnknownTable, 'show ' + name, 'put ' + name + ' 0 0', 'close ' + name)
        self.tell('tables', 'none')

    def test_names_held_already(self):
        self.run_ok('open a x', 'strike a 0 0')
        self.refuse(DuplicateName, 'open a x', 'open a xx/xx', 'open a no', 'open a xx/x', 'open a /')
        self.tell('show a', '.')
        self.run_ok('undo a')
        self.tell('show a', 'x')

    def test_refused_tables_take_no_name(self):
        self.refuse_text('open a xx/x', 1)
        self.tell('tables', 'none')
        self.refuse(UnknownTable, 'show a', 'close a')
        self.run_ok('open a xx/xx')

    def test_unknown_tables_ahead_of_all_else(self):
        self.run_ok('open a x')
        for name in ('b', 'aa', 'A', 'nine_nine', '0'):
            self.refuse(UnknownTable, *['{} {}'.format(first, name) for first in
                                        ('close', 'undo', 'redo', 'show', 'ring', 'squares', 'core')])
            self.refuse(UnknownTable, 'put ' + name + ' 0 0', 'put ' + name + ' no no', 'strike ' + name + ' 9 9',
                        'strike ' + name + ' 0 0', 'cost ' + name + ' 1 1', 'cost ' + name + ' no no')

    def test_many_names(self):
        names = [one + two for one in string.ascii_lowercase for two in string.ascii_lowercase]
        rnd = random.Random(140)
        rnd.shuffle(names)
        for at, name in enumerate(names):
            self.run_ok('open {} {}'.format(name, 'x' * (at % 8 + 1)))
        self.tell('tables', ' '.join(sorted(names)))
        for at, name in enumerate(names):
            self.tell('show ' + name, 'x' * (at % 8 + 1))
        for name in names[::2]:
            self.run_ok('close ' + name)
        self.tell('tables', ' '.join(sorted(names[1::2])))
        self.refuse(UnknownTable, *['show ' + name for name in names[::2]])

    def test_closed_and_opened_again(self):
        self.run_ok('open a x.', 'put a 0 1', 'strike a 0 0', 'undo a', 'close a')
        self.refuse(UnknownTable, 'show a', 'undo a', 'redo a', 'close a')
        self.tell('tables', 'none')
        self.run_ok('open a .x')
        self.tell('show a', '.x')
        self.refuse(NothingToUndo, 'undo a')
        self.refuse(NothingToRedo, 'redo a')
        self.run_ok('close a')
        self.run_ok('open a xxx/xxx')
        self.tell('show a', 'xxx/xxx')


class Tables(WithShell):
    def test_tables_of_all_sizes(self):
        for table in many_tables()[::4]:
            text = '/'.join(table)
            self.run_ok('open a ' + text)
            self.tell('show a', text)
            self.tell('ring a', 'yes' if has_ring_by_hand(table) else 'no')
            self.tell('squares a', str(len(squares_by_hand(table))))
            self.tell('core a', ' '.join(str(column) for column in taken_by_hand(table)[1]) or 'none')
            self.run_ok('close a')

    def test_lines_of_parse_errors(self):
        for at in range(8):
            for wrong in ('', 'xX', 'x', 'xxx', 'xxxxxxxxx', 'x\t', '01', 'x,'):
                rows = ['x.'] * 8
                rows[at] = wrong
                if at > 0 or wrong not in ('x', 'xxx'):
                    self.refuse_text('open a ' + '/'.join(rows), at)
        self.refuse_text('open a x/xx', 1)
        self.refuse_text('open a xxx/xx/xx', 1)
        self.refuse_text('open a ' + '/'.join(['x.'] * 9), 8)
        self.refuse_text('open a ' + '/'.join(['x.'] * 9 + ['no']), 8)
        self.refuse_text('open a /', 0)
        self.refuse_text('open a x/', 1)
        self.refuse_text('open a /x', 0)
        self.refuse_text('open a x//x', 1)
        self.refuse_text('open a x\\nx', 0)
        self.refuse_text('open a -', 0)
        self.tell('tables', 'none')


class Ticks(WithShell):
    def test_put_and_strike(self):
        self.run_ok('open a x../..x', 'put a 1 0', 'strike a 0 0')
        self.tell('show a', '.../x.x')
        self.refuse(KnownTick, 'put a 1 0', 'put a 1 2')
        self.refuse(UnknownTick, 'strike a 0 0', 'strike a 1 1')
        self.tell('show a', '.../x.x')

    def test_words_that_are_no_integers(self):
        self.run_ok('open a xx/..')
        for word in NO_INTEGERS + ['2', '8', '999999999', '123456789']:
            for places in ('{} 0', '0 {}', '1 {}', '{0} {0}', '9 {}', '{} 9'):
                self.refuse(InvalidIndex, 'put a ' + places.format(word), 'strike a ' + places.format(word))
        self.tell('show a', 'xx/..')
        self.refuse(NothingToUndo, 'undo a')

    def test_two_errors_at_once(self):
        self.run_ok('open a x')
        self.refuse(InvalidIndex, 'put a 1 0', 'put a 0 1', 'put a 00 0', 'strike a 0 00', 'strike a 1 1')
        self.run_ok('strike a 0 0')
        self.refuse(InvalidIndex, 'strike a 0 00', 'strike a 00 0', 'strike a -1 0', 'strike a 1 0')

    def test_refused_lines_between_undo_and_redo(self):
        refused = [(InvalidLine, 'redo a '), (InvalidLine, 'put a 0'), (UnknownTable, 'undo b'),
                   (KnownTick, 'put a 0 0'), (UnknownTick, 'strike a 1 1'),
                   (InvalidIndex, 'put a 0 5'), (InvalidIndex, 'strike a x y'),
                   (DuplicateName, 'open a ..'), (InvalidName, 'open 1 ..'), (ParseError, 'open b no'),
                   (InvalidPrices, 'cost a 1 1,1'), (InvalidFines, 'cost a 1,1 1')]
        self.run_ok('open a x./..', 'put a 0 1', 'put a 1 0', 'strike a 1 0', 'undo a', 'undo a')
        for error, line in refused:
            self.refuse(error, line)
        self.tell('show a', 'xx/..')
        self.run_ok('redo a')
        for error, line in refused:
            self.refuse(error, line)
        self.tell('show a', 'xx/x.')
        self.run_ok('redo a')
        self.tell('show a', 'xx/..')
        self.refuse(NothingToRedo, 'redo a')
        self.run_ok('undo a', 'undo a', 'undo a')
        self.refuse(NothingToUndo, 'undo a')
        self.tell('show a', 'x./..')
        self.run_ok('put a 1 1')
        self.refuse(NothingToRedo, 'redo a')

    def test_asking_ends_nothing_that_can_be_done_again(self):
        self.run_ok('open a x.', 'put a 0 1', 'undo a')
        for line in ('show a', 'ring a', 'squares a', 'core a', 'cost a 1,1 1', 'tables', 'open b x', 'strike b 0 0'):
            self.shell.run(line)
        self.run_ok('redo a', 'undo b')
        self.tell('show a', 'xx')

    def test_two_names_and_two_shells(self):
        other = Shell()
        self.run_ok('open a x.', 'open b x.', 'put a 0 1')
        self.tell('show b', 'x.')
        self.refuse(NothingToUndo, 'undo b')
        self.assertEqual(other.run('tables'), 'none')
        self.assertRaises(UnknownTable, other.run, 'show a')
        self.assertEqual(other.run('open a ..'), 'ok')
        self.tell('show a', 'xx')
        self.assertEqual(other.run('close a'), 'ok')
        self.tell('tables', 'a b')


class Costs(WithShell):
    def test_costs_of_many_tables(self):
        rnd = random.Random(141)
        for table in rnd.sample(many_tables(), 60) + [('x' * 8,) * 8, ('.' * 8,) * 8, ring_alone(8)]:
            self.run_ok('open a ' + '/'.join(table))
            for most in (1, 9, 999):
                prices, fines = some_amounts(rnd, len(table[0]), most), some_amounts(rnd, len(table), most)
                line = 'cost a {} {}'.format(joined(prices), joined(fines))
                self.tell(line, str(least_by_hand(table, prices, fines)[0]))
                self.tell(line, str(cheapest(table, prices, fines)[0]))
            self.run_ok('close a')

    def test_least_and_greatest(self):
        self.run_ok('open a ' + '/'.join(['........'] * 8), 'open b x', 'open c xx/x.')
        self.tell('cost a 0,0,0,0,0,0,0,0 ' + ','.join(['999'] * 8), '7992')
        self.tell('cost b 0 0', '0')
        self.tell('cost b 999 999', '999')
        self.tell('cost b 0 999', '0')
        self.tell('cost c 10,3 100,7', '10')

    def test_no_prices_and_no_fines(self):
        self.run_ok('open a xx./.xx')
        wrong = NO_INTEGERS + ['1000', '999999999', '12345', '-', 'none']
        for word in wrong:
            if word in ('0,', ',0', ',', '/'):
                continue
            for at in range(3):
                words = ['5', '5', '5']
                words[at] = word
                for fines in ('1,1', '1', '1,x', word, '1000,1'):
                    self.refuse(InvalidPrices, 'cost a {} {}'.format(','.join(words), fines))
            for at in range(2):
                words = ['5', '5']
                words[at] = word
                self.refuse(InvalidFines, 'cost a 0,0,0 {}'.format(','.join(words)))
        for word in ('1', '1,1', '1,1,1,1', ',1,1', '1,,1', '1,1,', ',', ',,', ',,,', '1,1,1,', ',1,1,1', '1;1;1',
                     '111', '1/1/1', '[1,1,1]', '(1,1,1)', '-', '1,1,1000', '0,-1,1', '01,1,1', '1.0,1,1'):
            self.refuse(InvalidPrices, 'cost a {} 1,1'.format(word), 'cost a {0} {0}'.format(word))
        for word in ('1', '1,1,1', ',1', '1,', ',', ',,', '1,,1', '11', '(1,1)', '-', '1000,1', '1,-1', '1,01'):
            self.refuse(InvalidFines, 'cost a 1,1,1 {}'.format(word))
        self.refuse(InvalidLine, 'cost a 1, 1,1 1,1', 'cost a 1,1,1  1,1', 'cost a 1,1,1', 'cost a 1,1,1 ')

    def test_commas_do_not_help_an_index(self):
        self.run_ok('open a xx./.xx')
        self.refuse(InvalidIndex, 'put a 0,0 0', 'put a 0 2,2')


class Walk(WithShell):
    def drawn_line(self, rnd, kept, name):
        table = kept[name].table()
        row, column = rnd.randrange(len(table)), rnd.randrange(len(table[0]))
        kind = rnd.choice(('put', 'strike', 'undo', 'redo', 'show', 'ring', 'squares', 'core'))
        if kind in ('put', 'strike'):
            line = '{} {} {} {}'.format(kind, name, row, column)
            if has(table, row, column) == (kind == 'put'):
                self.refuse(KnownTick if kind == 'put' else UnknownTick, line)
            else:
                self.run_ok(line)
                kept[name].change(row, column, 'x' if kind == 'put' else '.')
        elif kind == 'undo' and kept[name].at == 0:
            self.refuse(NothingToUndo, 'undo ' + name)
        elif kind == 'redo' and kept[name].at == len(kept[name].states) - 1:
            self.refuse(NothingToRedo, 'redo ' + name)
        elif kind in ('undo', 'redo'):
            self.run_ok(kind + ' ' + name)
            kept[name].at += -1 if kind == 'undo' else 1
        else:
            columns = taken_by_hand(table)[1]
            answers = {'show': '/'.join(table), 'ring': 'yes' if has_ring_by_hand(table) else 'no',
                       'squares': str(len(squares_by_hand(table))),
                       'core': ' '.join(str(column) for column in columns) or 'none'}
            self.tell(kind + ' ' + name, answers[kind])

    def test_long_rows_of_lines(self):
        rnd = random.Random(142)
        kept = {}
        for _ in range(1500):
            name = rnd.choice('abcdef')
            if name not in kept:
                table = some_table(rnd, rnd.randint(1, 8), rnd.randint(1, 8), rnd.choice((0.2, 0.4, 0.6)))
                self.refuse(UnknownTable, 'show ' + name)
                self.run_ok('open {} {}'.format(name, '/'.join(table)))
                kept[name] = Kept(table)
            elif rnd.random() < 0.02:
                self.run_ok('close ' + name)
                del kept[name]
            else:
                self.refuse(DuplicateName, 'open ' + name + ' x')
                self.drawn_line(rnd, kept, name)
            self.tell('tables', ' '.join(sorted(kept)) or 'none')

    def test_core_of_a_ring_beside_other_columns(self):
        table = ('xx.x', '.xx.', 'x.x.')
        self.run_ok('open a ' + '/'.join(table))
        self.tell('core a', ' '.join(str(column) for column in core(table)))
        self.tell('core a', '0 1 2')
