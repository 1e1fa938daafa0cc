import copy
import random
import re
import unittest

from tests.cost_judges import judge_amounts, judge_paper
from tests.cost_samples import any_priced, check_again, check_amount_errors, priced, ringless_priced
from tests.judges import judge_arrangement, judge_ring, ring_sizes
from tests.samples import (GOOD, RINGED, check_wrong_tables, many_tables, ring_alone, small_tables, wrong_everywhere)
from ticklay.arrangements import arrangement
from ticklay.choices import is_paper
from ticklay.errors import HasRing, InvalidFines, InvalidPrices, InvalidTable, ParseError
from ticklay.rings import is_ring, ring
from ticklay.sheets import is_right, paper_sheet, ring_sheet
from ticklay.texts import format_table

INTEGER = '(?:0|[1-9][0-9]{0,8})'
LOT = f'(-|{INTEGER}(?:,{INTEGER})*)'


def first_wrong_row(rows):
    """The index of the first line that is no row of a table (point 8), or None."""
    for at, row in enumerate(rows):
        if at == 8 or re.fullmatch('[x.]{1,8}', row) is None or len(row) != len(rows[0]):
            return at
    return None


def claim_by_hand(line):
    """The first word and the tuples of integers of a claim, or None if a line is none."""
    found = re.fullmatch(f'(ring|arrangement) {LOT} {LOT}|(paper) {LOT} {LOT} {LOT} {LOT}', line)
    if found is None:
        return None
    words = [word for word in found.groups() if word is not None]
    return words[0], [() if word == '-' else tuple(int(part) for part in word.split(',')) for word in words[1:]]


def sheet_by_hand(text):
    """Whether a sheet is right, or the index of its first wrong line, by the words of point 27."""
    if type(text) is not str:
        return 0
    *rows, last = text.split('\n')
    if not rows:
        return 0
    wrong = first_wrong_row(rows)
    if wrong is not None:
        return wrong
    claim = claim_by_hand(last)
    if claim is None:
        return len(rows)
    table, (kind, lots) = tuple(rows), claim
    if kind == 'ring':
        return judge_ring(table, tuple(lots))
    if kind == 'arrangement':
        return judge_arrangement(table, tuple(lots))
    if not judge_amounts(lots[0], len(table[0])) or not judge_amounts(lots[1], len(table)):
        return False
    return judge_paper(table, lots[0], lots[1], tuple(lots[2:]))


class WithSheets(unittest.TestCase):
    def check_sheet(self, text):
        """Check what is told of a sheet, and return it."""
        judged = sheet_by_hand(text)
        with self.subTest(text=repr(text)[:120]):
            if type(judged) is bool:
                self.assertIs(is_right(text), judged)
            else:
                with self.assertRaises(ParseError) as caught:
                    is_right(text)
                self.assertEqual((caught.exception.line, type(caught.exception.line)), (judged, int))
        return judged

    def check_line(self, text, line):
        judged = self.check_sheet(text)
        self.assertEqual((type(judged), judged), (int, line), repr(text)[:120])


def some_sheets():
    """Right sheets of each claim, made by their words from what other functions tell."""
    rnd = random.Random(191)
    sheets = ['xx.\n.xx\nx.x\nring 0,1,2 0,1,2', 'x\npaper 3 2 - 2', 'x\narrangement 0 0', '.\npaper 999 0 - 0',
              'x.\n.x\npaper 0,999 0,998 0 0,998']
    for table, prices, fines in rnd.sample(any_priced(), 25) + rnd.sample(ringless_priced(), 25):
        found = ring(table)
        if found is None:
            sheets.append(paper_sheet(table, prices, fines))
        sheets.append(ring_sheet(table))
    return sheets


class IsRight(WithSheets):
    def test_examples(self):
        self.assertEqual((is_right('xx.\n.xx\nx.x\nring 0,1,2 0,1,2'), is_right('xx\n.x\npaper 3,4 9,2 1 3,2'),
                          is_right('x\npaper 3 2 - 2'), ring_sheet(('x',))), (True, False, True, 'x\narrangement 0 0'))
        self.check_line('xx\n.x\nring 0,1', 2)

    def test_each_sign_exchanged_left_out_and_put_in(self):
        rnd = random.Random(192)
        told = set()
        for text in rnd.sample(some_sheets(), 20) + some_sheets()[:5]:
            self.assertIs(self.check_sheet(text), True)
            for at in range(len(text) + 1):
                told.add(repr(self.check_sheet(text[:at] + text[at + 1:])))
                for sign in rnd.sample('x. \n\t,-019aA+_/\r', 8) + ['\n', ' ']:
                    told.add(repr(self.check_sheet(text[:at] + sign + text[at:])))
                    told.add(repr(self.check_sheet(text[:at] + sign + text[at + 1:])))
        self.assertLessEqual({'True', 'False'} | set('012345678'), told)

    def test_each_word_exchanged(self):
        rnd = random.Random(193)
        words = ['-', '0', '1', '0,1', '1,0', '0,0', '0,1,2', '2,1,0', '1,2,0', '999', '1000', '123456789', '999999999',
                 '0,1,2,3,4,5,6,7', '0,1,2,3,4,5,6,8', 'ring', 'arrangement', 'paper']
        words += ['1000000000', '0000000000', '00', '01', '-1', '+1', '', ',', '0,', ',0', '0,,1', '1.0', 'x', '--',
                  '-,0', '0,-', '\t', '0\t', '\u0661', '\u00b2', '0\u0660', '0x1', '1_0', '1e1', 'None', '()', '[0]',
                  '"0"', '1;2']
        for text in rnd.sample(some_sheets(), 30) + some_sheets()[:5]:
            rows, _, claim = text.rpartition('\n')
            told = claim.split(' ')
            for at in range(len(told)):
                for word in words:
                    self.check_sheet(rows + '\n' + ' '.join(told[:at] + [word] + told[at + 1:]))
                    self.check_sheet(rows + '\n' + ' '.join(told[:at] + [word] + told[at:]))
                self.check_sheet(rows + '\n' + ' '.join(told[:at] + told[at + 1:]))
                self.check_sheet(rows + '\n' + ' '.join(told[:at] + told[at:at + 1] + told[at:]))
                for other in range(at):
                    turned = list(told)
                    turned[at], turned[other] = told[other], told[at]
                    self.check_sheet(rows + '\n' + ' '.join(turned))

    def test_each_integer_exchanged(self):
        rnd = random.Random(194)
        right = 0
        for text in rnd.sample(some_sheets(), 40):
            rows, _, claim = text.rpartition('\n')
            spots = [found.span() for found in re.finditer('[0-9]+', claim)]
            for first, last in spots:
                number = int(claim[first:last])
                for other in (number - 1, number + 1, 0, 1, 8, 999, 1000, 10 ** 9 - 1, 10 ** 9):
                    right += self.check_sheet(f'{rows}\n{claim[:first]}{other}{claim[last:]}') is True
                self.check_line(f'{rows}\n{claim[:first]}0{claim[first:]}', len(rows.split('\n')))
        self.assertGreater(right, 20)

    def test_all_claims_of_small_tables(self):
        lots = ['-', '0', '1', '0,1', '1,0', '0,1,2', '2,1,0', '1,2,0', '0,2,1', '0,0', '0,1,1', '3', '0,1,2,3']
        rnd = random.Random(195)
        told = {True: 0, False: 0}
        for table in rnd.sample(small_tables(3, 3), 40) + [RINGED, GOOD] + small_tables(1, 2) + small_tables(2, 1):
            for kind in ('ring', 'arrangement'):
                for first in lots:
                    for second in lots:
                        told[self.check_sheet('\n'.join(table) + f'\n{kind} {first} {second}')] += 1
        self.assertTrue(told[True] > 100 and told[False] > 1000)

    def test_all_paper_claims_of_small_tables(self):
        told = {True: 0, False: 0}
        for table in [('x',), ('.',), ('x.',), ('xx',), ('x', '.')]:
            for prices in ('0', '1', '2', '0,1', '1,1', '-', '1000', '1000,0'):
                for fines in ('0', '1', '2', '1,2', '-', '1000'):
                    for choice in ('-', '0', '1', '0,1', '1,0', '0,0'):
                        for weights in ('0', '1', '2', '0,2', '1,2', '1,0', '-'):
                            claim = f'paper {prices} {fines} {choice} {weights}'
                            told[self.check_sheet('\n'.join(table) + '\n' + claim)] += 1
        self.assertTrue(told[True] > 20 and told[False] > 1000)

    def test_the_first_wrong_line(self):
        for many in range(1, 9):
            for at in range(many):
                for wrong in ('', 'xX.', 'x x', 'x.\t', 'xxxxxxxxx', 'ring 0 0', 'x.', 'x.xx', ' x.x', 'x.x '):
                    rows = ['x.x'] * many
                    rows[at] = wrong
                    for claim in ('ring - -', 'no', '', 'x.x', 'arrangement 0'):
                        judged = self.check_sheet('\n'.join(rows + [claim]))
                        # A first row of another length is a row; then the second one is wrong.
                        if at > 0 or wrong not in ('x.', 'x.xx'):
                            self.assertEqual(judged, at)
                        elif many > 1:
                            self.assertEqual(judged, 1)
            for claim in ('', ' ', 'no', 'ring', 'ring - - ', ' ring - -', 'ring  - -', 'ring -\t-', 'ring - - -',
                          'x.x', 'arrangement -', 'paper - - -', 'paper - - - - -', 'Ring - -', 'ring 0 00',
                          'ring 0 1000000000'):
                self.check_line('\n'.join(['x.x'] * many + [claim]), many)

    def test_the_ninth_row(self):
        eight = ['x.'] * 8
        self.assertIs(self.check_sheet('\n'.join(eight + ['ring - -'])), False)
        self.assertIs(self.check_sheet('\n'.join(eight + ['arrangement 0,1,2,3,4,5,6,7 1,0'])), True)
        for ninth in ('x.', '', 'x', 'no', 'ring - -'):
            self.check_line('\n'.join(eight + [ninth, 'ring - -']), 8)
            self.check_line('\n'.join(eight + [ninth, 'no']), 8)
            self.check_line('\n'.join(eight + [ninth, ninth, 'ring - -']), 8)
        self.check_line('\n'.join(eight + ['no']), 8)
        self.check_line('\n'.join(eight + ['x.']), 8)
        self.check_line('\n'.join(['x.'] * 5 + ['x'] + ['x.'] * 5), 5)
        self.check_line('x\n' * 10000 + 'ring - -', 8)

    def test_one_line(self):
        for text in ('', 'x', 'ring 0,1,2 0,1,2', 'arrangement 0 0', 'paper 3 2 - 2', 'no', ' ', '-', 'x' * 9):
            self.check_line(text, 0)

    def test_line_feeds_at_the_beginning_and_the_end(self):
        self.check_line('\nx\narrangement 0 0', 0)
        self.check_line('x\narrangement 0 0\n', 1)
        self.check_line('x\n', 1)
        self.check_line('\n', 0)
        self.check_line('\narrangement 0 0', 0)
        self.check_line('x\n\narrangement 0 0', 1)
        self.check_line('x\r\narrangement 0 0', 0)
        self.check_line('x\narrangement 0 0\r', 1)

    def test_nothing_and_numbers_of_nine_figures(self):
        self.assertIs(self.check_sheet('x\nring - -'), False)
        self.assertIs(self.check_sheet('x\narrangement - 0'), False)
        self.assertIs(self.check_sheet('x\npaper - - - -'), False)
        self.assertIs(self.check_sheet('x\npaper 1 1 - -'), False)
        self.assertIs(self.check_sheet('x\npaper 1 0 - 0'), True)
        self.assertIs(self.check_sheet('x\npaper 999999999 0 - 0'), False)
        self.assertIs(self.check_sheet('x\npaper 1000 0 - 0'), False)
        self.assertIs(self.check_sheet('x\npaper 999 1000 - 999'), False)
        self.assertIs(self.check_sheet('x\narrangement 999999999 0'), False)
        self.check_line('x\narrangement 1000000000 0', 1)
        self.check_line('x\npaper 0000000001 0 - 0', 1)

    def test_papers_of_a_table_with_a_ring(self):
        text = '\n'.join(ring_alone(4)) + '\npaper 1,1,1,1 2,2,2,2 0,2 1,0,1,0'
        self.assertIs(self.check_sheet(text), True)
        self.assertIs(self.check_sheet('xx.\n.xx\nx.x\npaper 1,1,1 2,2,2 0,1 1,0,0'), False)

    def test_no_strings(self):
        for thing in wrong_everywhere() + [('x', 'arrangement 0 0'), ['x\narrangement 0 0'], (), {'x': 1}]:
            before = copy.deepcopy(thing)
            self.check_line(thing, 0)
            self.assertEqual(thing, before)

    def test_by_name(self):
        self.assertIs(is_right(text='x\narrangement 0 0'), True)


class RingSheet(WithSheets):
    def check_ring_sheet(self, table):
        text = check_again(self, ring_sheet, table)
        self.assertIs(type(text), str)
        rows, _, claim = text.rpartition('\n')
        self.assertEqual(rows, '\n'.join(table))
        kind, lots = claim_by_hand(claim)
        self.assertIs(self.check_sheet(text), True)
        self.assertEqual(kind, 'ring' if ring_sizes(table) else 'arrangement', table)
        return kind, tuple(lots)

    def test_tables_of_all_sizes(self):
        for table in many_tables()[::2]:
            self.check_ring_sheet(table)

    def test_all_small_tables(self):
        kinds = [self.check_ring_sheet(table)[0] for table in small_tables(3, 3)]
        self.assertEqual(kinds.count('ring'), 6)

    def test_fits_what_is_told_of_the_table(self):
        for table in many_tables()[::7]:
            kind, lots = self.check_ring_sheet(table)
            self.assertEqual(kind == 'ring', arrangement(table) is None)
            self.assertEqual(kind == 'ring', is_ring(table, lots))

    def test_wrong_tables(self):
        check_wrong_tables(self, ring_sheet)

    def test_by_name(self):
        self.assertEqual(ring_sheet(table=('x',)), 'x\narrangement 0 0')


class PaperSheet(WithSheets):
    def test_tables_without_a_ring(self):
        for table, prices, fines in ringless_priced():
            text = check_again(self, paper_sheet, table, prices, fines)
            self.assertIs(self.check_sheet(text), True, (table, prices, fines))
            rows, _, claim = text.rpartition('\n')
            kind, lots = claim_by_hand(claim)
            self.assertEqual((rows, kind, lots[0], lots[1]), ('\n'.join(table), 'paper', prices, fines))
            self.assertIs(is_paper(table, prices, fines, tuple(lots[2:])), True)

    def test_nothing_is_written_as_such(self):
        self.assertEqual(paper_sheet(('x',), (3,), (2,)), 'x\npaper 3 2 - 2')
        self.assertEqual(paper_sheet(('.',), (3,), (999,)), '.\npaper 3 999 - 999')
        self.assertEqual(paper_sheet(('x',), (0,), (2,)), 'x\npaper 0 2 0 0')

    def test_tables_with_a_ring_behind_the_other_errors(self):
        met = 0
        for table, prices, fines in any_priced():
            if ring(table) is None:
                self.assertIs(self.check_sheet(paper_sheet(table, prices, fines)), True)
                continue
            met += 1
            self.assertRaises(HasRing, paper_sheet, table, prices, fines)
            for wrong in (1000, -1, True, None):
                self.assertRaises(InvalidFines, paper_sheet, table, prices, fines[:-1] + (wrong,))
                self.assertRaises(InvalidPrices, paper_sheet, table, prices[:-1] + (wrong,), fines[:-1] + (wrong,))
                self.assertRaises(InvalidTable, paper_sheet, table + ('no',), prices[:-1] + (wrong,), fines[1:])
        self.assertGreater(met, 20)
        # The even ring has a paper as [15] tells, but [27] refuses any table with a ring.
        self.assertRaises(HasRing, paper_sheet, ring_alone(4), (1,) * 4, (2,) * 4)

    def test_errors(self):
        check_amount_errors(self, paper_sheet)

    def test_by_name(self):
        self.assertEqual(paper_sheet(fines=(2,), prices=(3,), table=('x',)), 'x\npaper 3 2 - 2')


class ThereAndBack(unittest.TestCase):
    def test_sheets_that_are_read_are_written_the_same(self):
        for text in some_sheets():
            *rows, claim = text.split('\n')
            kind, lots = claim_by_hand(claim)
            words = [kind] + [','.join(str(number) for number in lot) or '-' for lot in lots]
            self.assertEqual(format_table(tuple(rows)) + '\n' + ' '.join(words), text)
            self.assertIs(is_right(text), True)
