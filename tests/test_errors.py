import unittest

import ticklay.errors as errors
from ticklay.errors import ParseError, TickError

OTHERS = [
    'DuplicateName', 'HasRing', 'InvalidArrangement', 'InvalidBalls', 'InvalidColumns', 'InvalidFines',
    'InvalidIndex', 'InvalidLine', 'InvalidLines', 'InvalidName', 'InvalidNumber', 'InvalidOrder',
    'InvalidPrices', 'InvalidSquare', 'InvalidTable', 'InvalidTree', 'KnownTick', 'NoTrial',
    'NothingToRedo', 'NothingToUndo', 'TooDeep', 'UnknownTable', 'UnknownTick',
]


class Errors(unittest.TestCase):
    def test_tick_error_is_a_value_error_with_a_string(self):
        self.assertEqual(TickError.__bases__, (ValueError,))
        self.assertEqual(str(TickError('why')), 'why')

    def test_each_other_error_is_a_direct_subclass_made_with_a_string(self):
        for name in OTHERS:
            with self.subTest(name=name):
                error = getattr(errors, name)
                self.assertEqual(error.__bases__, (TickError,))
                self.assertEqual(error.__name__, name)
                self.assertEqual(error.__module__, 'ticklay.errors')
                self.assertEqual(str(error('why')), 'why')
                with self.assertRaises(TickError):
                    raise error('why')

    def test_parse_error_has_a_line_by_position_and_by_name(self):
        self.assertEqual(ParseError.__bases__, (TickError,))
        for line in (0, 1, 8, 10 ** 6):
            self.assertEqual(ParseError(line).line, line)
            self.assertEqual(ParseError(line=line).line, line)
        self.assertEqual(vars(ParseError(3))['line'], 3)
        self.assertIsInstance(str(ParseError(3)), str)
        with self.assertRaises(TypeError):
            ParseError()

    def test_no_error_is_one_of_the_others(self):
        kinds = [getattr(errors, name) for name in OTHERS] + [ParseError]
        for one in kinds:
            for other in kinds:
                self.assertEqual(issubclass(one, other), one is other)

    def test_there_are_no_further_errors(self):
        found = [name for name in vars(errors) if isinstance(getattr(errors, name), type)]
        self.assertEqual(sorted(found), sorted(OTHERS + ['ParseError', 'TickError']))
