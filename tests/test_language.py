"""The package's own files keep to the small part of Python that the project allows.

These are the rules that are easily seen by a machine; the others are a reader's work.
"""

import ast
import pathlib
import re
import unittest

PACKAGE = pathlib.Path(__file__).resolve().parent.parent / 'outoforder'

STATEMENTS = 'Assign AugAssign If While For Return Break Continue Pass Raise Try ExceptHandler Expr ImportFrom'
DEFINITIONS = 'Module FunctionDef ClassDef arguments arg alias keyword Lambda'
VALUES = 'Constant List Tuple Dict BinOp UnaryOp BoolOp Compare IfExp Call Attribute Subscript Slice Name ListComp'
PARTS = 'comprehension JoinedStr FormattedValue Load Store And Or Not USub'
OPERATORS = 'Add Sub Mult FloorDiv Mod Pow LShift RShift BitOr BitXor BitAnd Invert'
COMPARISONS = 'Eq NotEq Lt LtE Gt GtE Is IsNot In NotIn'
NODES = set(' '.join((STATEMENTS, DEFINITIONS, VALUES, PARTS, OPERATORS, COMPARISONS)).split())

BUILTINS = set(
    'len range enumerate zip min max sum abs sorted reversed int str bool list tuple dict set frozenset isinstance '
    'ord repr any all divmod Exception ValueError TypeError KeyError IndexError LookupError ZeroDivisionError '
    'ArithmeticError OverflowError RuntimeError NotImplementedError AttributeError StopIteration'.split())

METHODS = set(
    'append clear copy count endswith extend find get index insert isalnum isalpha isdigit islower isspace isupper '
    'items join keys ljust lower lstrip partition pop remove replace reverse rfind rjust rpartition rsplit rstrip '
    'setdefault split splitlines startswith strip update upper values zfill bit_length'.split())

WORDS = ('type typing typing_extensions enum Enum IntEnum StrEnum Flag IntFlag Generic Protocol ABC ABCMeta namedtuple '
         'NamedTuple TypedDict TYPE_CHECKING abstractmethod').split()


def files():
    return sorted(PACKAGE.glob('*.py'))


def trees():
    return [(path.name, ast.parse(path.read_text())) for path in files()]


def nodes(tree, *kinds):
    return [node for node in ast.walk(tree) if isinstance(node, kinds)]


def bound_names(tree):
    names = [node.id for node in nodes(tree, ast.Name) if isinstance(node.ctx, ast.Store)]
    names += [node.name for node in nodes(tree, ast.FunctionDef, ast.ClassDef)]
    names += [node.arg for node in nodes(tree, ast.arg)]
    return names + [alias.name for node in nodes(tree, ast.ImportFrom) for alias in node.names]


class Language(unittest.TestCase):
    def test_files(self):
        others = [path.name for path in PACKAGE.iterdir() if path.suffix != '.py' and path.name != '__pycache__']
        self.assertEqual(others, [])
        self.assertIn('__init__.py', [path.name for path in files()])

    def test_signs_and_sizes(self):
        for path in files():
            lines = path.read_text(encoding='ascii').split('\n')
            self.assertLessEqual(len(lines), 400, path.name)
            for line in lines:
                self.assertRegex(line, r'^[ -~]{0,120}$')
        for name, tree in trees():
            for node in nodes(tree, ast.FunctionDef):
                self.assertLessEqual(node.end_lineno - node.lineno + 1, 40, (name, node.name))

    def test_words_that_stand_nowhere(self):
        for path in files():
            text = path.read_text()
            for each in WORDS:
                self.assertIsNone(re.search(rf'\b{each}\b', text), (path.name, each))
            for each in ('dataclass', 'overload', 'contextmanager'):
                self.assertNotIn(each, text)

    def test_parts_of_the_language(self):
        for name, tree in trees():
            for node in ast.walk(tree):
                self.assertIn(type(node).__name__, NODES, (name, getattr(node, 'lineno', 0)))
            for node in nodes(tree, ast.Assign):
                self.assertEqual(len(node.targets), 1)
            for node in nodes(tree, ast.FunctionDef, ast.ClassDef):
                self.assertEqual(node.decorator_list, [])
            for node in nodes(tree, ast.Constant):
                self.assertIn(type(node.value), (int, str, bool, type(None)))

    def test_names(self):
        for name, tree in trees():
            bound = bound_names(tree)
            for node in nodes(tree, ast.Name):
                self.assertIn(node.id, BUILTINS | set(bound), (name, node.lineno))
            for each in bound:
                self.assertRegex(each, r'^([A-Za-z][A-Za-z0-9_]*|__init__)$', name)
                self.assertNotIn(each, dir(__builtins__) if not isinstance(__builtins__, dict) else __builtins__, name)

    def test_imports_are_the_package_s_own(self):
        for name, tree in trees():
            for node in nodes(tree, ast.ImportFrom):
                self.assertEqual((node.level, node.module.split('.')[0]), (0, 'outoforder'), name)

    def test_methods_and_values_do_not_share_names(self):
        methods, values, called = set(), set(), set()
        for _, tree in trees():
            for each in nodes(tree, ast.ClassDef):
                methods |= {node.name for node in each.body if isinstance(node, ast.FunctionDef)}
            values |= {node.attr for node in nodes(tree, ast.Attribute) if isinstance(node.ctx, ast.Store)}
            called |= {node.func.attr for node in nodes(tree, ast.Call) if isinstance(node.func, ast.Attribute)}
        self.assertEqual(methods & values, set())
        self.assertEqual(called - methods - METHODS, set())


if __name__ == '__main__':
    unittest.main()
