"""The interface of the document, and those rules of the language that a test can see plainly."""

import ast
import builtins
import os
import unittest
import warnings

import ticklay

FOLDER = os.path.dirname(os.path.abspath(ticklay.__file__))

INTERFACE = {
    'tables': {'is_table': ['thing'], 'turned': ['table'], 'part': ['table', 'rows', 'columns'], 'ticks': ['table']},
    'texts': {'format_table': ['table'], 'parse_table': ['text']},
    'rings': {'is_ring': ['table', 'thing'], 'ring': ['table'], 'odd_ring': ['table']},
    'arrangements': {'squares': ['table'], 'is_arrangement': ['table', 'thing'], 'arrangement': ['table']},
    'lexical': {'is_lexical': ['table', 'thing'], 'lexical': ['table']},
    'nests': {'nests': ['table', 'columns'], 'taken_away': ['table'], 'core': ['table']},
    'choices': {'cost': ['table', 'prices', 'fines', 'choice'], 'are_weights': ['table', 'prices', 'fines', 'thing'],
                'is_paper': ['table', 'prices', 'fines', 'thing']},
    'going': {'go': ['table', 'prices', 'fines', 'arrangement']},
    'cheapest': {'cheapest': ['table', 'prices', 'fines'], 'heaviest': ['table', 'prices', 'fines'],
                 'paper': ['table', 'prices', 'fines'], 'gap': ['table', 'prices', 'fines']},
    'worth': {'worth': ['table', 'prices', 'fines', 'column'], 'in_each': ['table', 'prices', 'fines'],
              'in_some': ['table', 'prices', 'fines']},
    'fewest': {'fewest_columns': ['table'], 'most_apart': ['table']},
    'trees': {'is_tree': ['thing'], 'far': ['tree', 'node', 'other'], 'ball_table': ['tree', 'balls']},
    'alike': {'match_of': ['table', 'other'], 'is_match': ['table', 'other', 'thing'],
              'are_alike': ['table', 'other']},
    'mending': {'fewest_strikes': ['table'], 'fewest_put': ['table']},
    'ladders': {'ladder': ['table', 'order', 'square']},
    'roads': {'by_nests': ['table', 'columns'], 'ball_order': ['tree', 'balls']},
    'dues': {'worth_paper': ['table', 'prices', 'fines', 'column'],
             'is_worth_paper': ['table', 'prices', 'fines', 'column', 'thing']},
    'sheets': {'is_right': ['text'], 'ring_sheet': ['table'], 'paper_sheet': ['table', 'prices', 'fines']},
}

# Methods and properties of the classes, each by its file.
CLASSES = {
    'live': {'Live': ({'__init__': ['self', 'table'], '__len__': ['self'], 'put': ['self', 'row', 'column'],
                       'strike': ['self', 'row', 'column'], 'undo': ['self'], 'redo': ['self'],
                       'paper': ['self', 'prices', 'fines'], 'copy': ['self']}, ['table', 'ring', 'arrangement'])},
    'shell': {'Shell': ({'__init__': ['self'], 'run': ['self', 'line']}, [])},
    'desks': {'Desk': ({'__init__': ['self', 'table', 'prices', 'fines'], '__len__': ['self'],
                        'put': ['self', 'row', 'column'], 'strike': ['self', 'row', 'column'],
                        'price': ['self', 'column', 'number'], 'fine': ['self', 'row', 'number'], 'undo': ['self'],
                        'redo': ['self'], 'begin': ['self'], 'keep': ['self'], 'drop': ['self'], 'best': ['self'],
                        'copy': ['self']}, ['table', 'prices', 'fines', 'trials'])},
}

LIBRARY = {
    'heapq': {'heappush', 'heappop', 'heapify', 'heapreplace', 'heappushpop'},
    'math': {'gcd', 'lcm', 'isqrt', 'comb', 'perm', 'factorial'},
    'itertools': {'product', 'combinations', 'permutations', 'chain', 'accumulate', 'pairwise', 'islice',
                  'zip_longest'},
    'collections': {'defaultdict', 'deque'},
}

# The builtins that may be used, but for those that no file needs (L8).
BUILTINS = {
    'len', 'range', 'enumerate', 'zip', 'min', 'max', 'sum', 'abs', 'sorted', 'reversed', 'int', 'str', 'bool', 'list',
    'tuple', 'dict', 'set', 'isinstance', 'ord', 'repr', 'any', 'all', 'divmod', 'ValueError', 'KeyError',
    'ZeroDivisionError',
}

# The methods of values of Python's own that may be called (L25).
METHODS = {
    'append', 'clear', 'copy', 'count', 'endswith', 'extend', 'find', 'get', 'index', 'insert', 'isalnum', 'isalpha',
    'isdigit', 'islower', 'isspace', 'isupper', 'items', 'join', 'keys', 'ljust', 'lower', 'lstrip', 'partition', 'pop',
    'remove', 'replace', 'reverse', 'rfind', 'rjust', 'rpartition', 'rsplit', 'rstrip', 'setdefault', 'split',
    'splitlines', 'startswith', 'strip', 'update', 'upper', 'values', 'zfill', 'bit_length',
}

# Names that stand nowhere (L17).
BARRED = {
    'mro', 'elements', 'open', 'input', 'law', 'version_info', 'with_traceback', 'add_note', 'register', 'attrgetter',
    'breakpoint', 'builtins', 'compile', 'copyright', 'credits', 'delattr', 'dir', 'eval', 'exec', 'exit', 'gc',
    'getattr', 'globals', 'hasattr', 'help', 'id', 'importlib', 'license', 'locals', 'methodcaller', 'os', 'quit',
    'setattr', 'super', 'type', 'vars', 'sys',
}


def texts_by_name():
    texts = {}
    for name in sorted(os.listdir(FOLDER)):
        if name != '__pycache__':
            with open(os.path.join(FOLDER, name), encoding='utf-8') as file:
                texts[name] = file.read()
    return texts


def imported(tree):
    """The modules of the package that a file imports from."""
    names = [node.module for node in tree.body if isinstance(node, ast.ImportFrom)]
    return [name.split('.')[1] for name in names if name.startswith('ticklay.')]


class Language(unittest.TestCase):
    def setUp(self):
        self.texts = texts_by_name()
        self.trees = {name: ast.parse(text) for name, text in self.texts.items()}

    def test_only_python_files(self):
        self.assertIn('__init__.py', self.texts)
        for name in self.texts:
            self.assertRegex(name, r'^[a-z_][a-z0-9_]*\.py$')

    def test_interface_stands_in_its_files(self):
        for name, functions in INTERFACE.items():
            found = {node.name: [arg.arg for arg in node.args.args]
                     for node in self.trees[name + '.py'].body if isinstance(node, ast.FunctionDef)}
            for function, parameters in functions.items():
                self.assertEqual(found.get(function), parameters, function)

    def test_classes_stand_in_their_files(self):
        for name, classes in CLASSES.items():
            found = {node.name: node for node in self.trees[name + '.py'].body if isinstance(node, ast.ClassDef)}
            for told, (methods, properties) in classes.items():
                functions = [node for node in found[told].body if isinstance(node, ast.FunctionDef)]
                plain = {node.name: [arg.arg for arg in node.args.args]
                         for node in functions if not node.decorator_list}
                for method, parameters in methods.items():
                    self.assertEqual(plain.get(method), parameters, (told, method))
                marked = {node.name: [mark.id for mark in node.decorator_list]
                          for node in functions if node.decorator_list}
                for one in properties:
                    self.assertEqual(marked.get(one), ['property'], (told, one))

    def test_sizes_and_signs(self):
        for name, text in self.texts.items():
            lines = text.split('\n')
            self.assertLessEqual(len(lines), 400, name)
            for line in lines:
                self.assertLessEqual(len(line), 120, name)
                self.assertTrue(all(' ' <= sign <= '~' for sign in line), (name, line))
            for node in ast.walk(self.trees[name]):
                if isinstance(node, ast.FunctionDef):
                    self.assertLessEqual(node.end_lineno - node.lineno + 1, 40, (name, node.name))

    def test_imports_stand_at_the_top_and_are_allowed(self):
        for name, tree in self.trees.items():
            behind = False
            for node in tree.body:
                self.assertNotIsInstance(node, ast.Import, name)
                if isinstance(node, ast.ImportFrom):
                    self.assertFalse(behind, name)
                    self.check_import(name, node)
                else:
                    behind = behind or not isinstance(node, ast.Expr)
            inner = [node for node in ast.walk(tree) if isinstance(node, (ast.Import, ast.ImportFrom))]
            self.assertEqual(len(inner), len([node for node in tree.body if node in inner]), name)

    def check_import(self, name, node):
        self.assertEqual(node.level, 0, name)
        told = {alias.name for alias in node.names}
        if node.module.startswith('ticklay.'):
            source = self.trees[node.module.split('.')[1] + '.py']
            defined = {part.name for part in source.body if isinstance(part, (ast.FunctionDef, ast.ClassDef))}
            for part in source.body:
                if isinstance(part, ast.Assign):
                    defined |= {target.id for target in part.targets}
            self.assertLessEqual(told, defined, name)
        elif node.module != '__future__':
            self.assertLessEqual(told, LIBRARY.get(node.module, set()), name)

    def test_no_two_files_import_from_each_other(self):
        reached = {name[:-3]: set(imported(tree)) for name, tree in self.trees.items()}
        for _ in reached:
            for name in reached:
                reached[name] = reached[name].union(*[reached[other] for other in reached[name]])
        for name in reached:
            self.assertNotIn(name, reached[name])
            if name != '__init__':
                self.assertNotIn('__init__', reached[name])

    def test_no_warnings(self):
        for name, text in self.texts.items():
            with warnings.catch_warnings():
                warnings.simplefilter('error')
                compile(text, name, 'exec')

    def test_names_of_builtins_and_imports_mean_nothing_else(self):
        for name, tree in self.trees.items():
            told = {alias.name for node in tree.body if isinstance(node, ast.ImportFrom) for alias in node.names}
            barred = told | set(dir(builtins)) - {'__doc__', '__name__'}
            for node in ast.walk(tree):
                if isinstance(node, ast.arg):
                    self.assertNotIn(node.arg, barred, name)
                elif isinstance(node, (ast.FunctionDef, ast.ClassDef)):
                    self.assertNotIn(node.name, barred, name)
                elif isinstance(node, ast.Name) and not isinstance(node.ctx, ast.Load):
                    self.assertNotIn(node.id, barred, name)

    def test_builtins_and_methods_that_are_used(self):
        own = {node.name for tree in self.trees.values() for node in ast.walk(tree)
               if isinstance(node, ast.FunctionDef)}
        for name, tree in self.trees.items():
            for node in ast.walk(tree):
                if isinstance(node, ast.Name) and node.id in dir(builtins):
                    self.assertIn(node.id, BUILTINS | {'property'}, name)
                if isinstance(node, ast.Call) and isinstance(node.func, ast.Attribute):
                    self.assertIn(node.func.attr, METHODS | own, name)

    def test_no_barred_names(self):
        for name, tree in self.trees.items():
            for node in ast.walk(tree):
                for part in ('id', 'name', 'arg', 'attr'):
                    self.assertNotIn(getattr(node, part, None), BARRED, name)
                if isinstance(node, ast.Constant) and isinstance(node.value, str):
                    self.assertNotIn('%', node.value, name)

    def test_properties_are_not_assigned(self):
        told = {one for classes in CLASSES.values() for _, properties in classes.values() for one in properties}
        for name, tree in self.trees.items():
            for node in ast.walk(tree):
                if isinstance(node, ast.Attribute) and not isinstance(node.ctx, ast.Load):
                    self.assertNotIn(node.attr, told, name)

    def test_each_import_is_used(self):
        for name, tree in self.trees.items():
            read = {node.id for node in ast.walk(tree) if isinstance(node, ast.Name)}
            for node in tree.body:
                if isinstance(node, ast.ImportFrom):
                    self.assertLessEqual({alias.name for alias in node.names}, read, name)

    def test_no_barred_statements(self):
        barred = (ast.AsyncFunctionDef, ast.Await, ast.Div, ast.MatMult)
        for name, tree in self.trees.items():
            for node in ast.walk(tree):
                self.assertNotIsInstance(node, barred, name)
                if isinstance(node, ast.Constant):
                    self.assertNotIsInstance(node.value, (float, complex), name)
                if isinstance(node, ast.FunctionDef):
                    self.assertLessEqual({mark.id for mark in node.decorator_list if isinstance(mark, ast.Name)},
                                         {'property', 'staticmethod', 'classmethod'}, name)
