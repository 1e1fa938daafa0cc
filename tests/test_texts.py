import copy
import unittest

from tests.samples import check_wrong_tables, many_tables, wrong_everywhere
from ticklay.errors import ParseError
from ticklay.texts import format_table, parse_table


class Texts(unittest.TestCase):
    def check_line(self, text, line):
        with self.subTest(text=repr(text)[:80]):
            with self.assertRaises(ParseError) as caught:
                parse_table(text)
            self.assertEqual(caught.exception.line, line)
            self.assertIs(type(caught.exception.line), int)

    def test_examples(self):
        self.assertEqual((format_table(('xx.', '.xx', 'xxx')), parse_table('x.\n.x')),
                         ('xx.\n.xx\nxxx', ('x.', '.x')))
        self.check_line('x.\n.x.', 1)

    def test_one_row(self):
        self.assertEqual(format_table(('x',)), 'x')
        self.assertEqual(parse_table('.'), ('.',))
        self.assertEqual(parse_table('........'), ('........',))

    def test_there_and_back(self):
        for table in many_tables():
            text = format_table(table)
            self.assertEqual(text, '\n'.join(table))
            self.assertEqual(parse_table(text), table)
            self.assertEqual(format_table(parse_table(text)), text)

    def test_format_wrong_tables(self):
        check_wrong_tables(self, format_table)

    def test_first_wrong_line_at_each_place(self):
        for many in range(1, 9):
            for at in range(many):
                for wrong in ('', 'xX.', 'x x', 'x.\t', 'xxxxxxxxx', '.........', '012', 'x,x', ' x.', 'x. '):
                    lines = ['x.x'] * many
                    lines[at] = wrong
                    self.check_line('\n'.join(lines), at)
                    lines[-1] = 'wrong'
                    self.check_line('\n'.join(lines), at)

    def test_other_length_at_each_place(self):
        for many in range(2, 9):
            for at in range(1, many):
                for wrong in ('x.', 'x.xx', '.'):
                    lines = ['x.x'] * many
                    lines[at] = wrong
                    self.check_line('\n'.join(lines), at)

    def test_first_line_tells_the_length(self):
        self.check_line('x\nx.x\nx.x', 1)
        self.check_line('xxxx\nx.x\nx.x', 1)
        self.check_line('xxxxxxxxx\nxxxxxxxxx', 0)

    def test_ninth_line(self):
        eight = 'x.\n' * 7 + '.x'
        self.assertEqual(parse_table(eight), ('x.',) * 7 + ('.x',))
        for ninth in ('x.', '', 'x', 'no', 'x.\nx.', '\n', 'x.\n' * 20):
            self.check_line(eight + '\n' + ninth, 8)
        self.check_line('x.\n' * 5 + 'x\n' + 'x.\n' * 5, 5)
        self.check_line('x.\n' * 10000, 8)

    def test_empty_lines(self):
        self.check_line('', 0)
        self.check_line('\n', 0)
        self.check_line('\nx', 0)
        self.check_line('x\n', 1)
        self.check_line('x\n\nx', 1)
        self.check_line('x.\n.x\n', 2)

    def test_other_signs(self):
        for sign in (' ', '\t', 'X', 'o', ',', '/', '0', '\t\n', ' \n'):
            self.check_line(sign + 'x\nxx', 0)
            self.check_line('xx\nx' + sign, 1)
        self.check_line('xx/xx', 0)

    def test_no_strings(self):
        for thing in wrong_everywhere() + [('x',), ['x'], ('x.', '.x'), ()]:
            before = copy.deepcopy(thing)
            self.check_line(thing, 0)
            self.assertEqual(thing, before)

    def test_by_name(self):
        self.assertEqual(format_table(table=('x',)), 'x')
        self.assertEqual(parse_table(text='x'), ('x',))
