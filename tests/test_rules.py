"""The rules for the package that can be seen in its files: L1, L2, L7, L8, L10, L14."""

import ast
import builtins
import pathlib
import unittest

FOLDER = pathlib.Path(__file__).resolve().parent.parent / 'anyfont'
FILES = sorted(path for path in FOLDER.rglob('*') if path.is_file() and path.parent.name != '__pycache__')
LIBRARY = {
    'heapq': {'heappush', 'heappop', 'heapify', 'heapreplace', 'heappushpop'},
    'math': {'gcd', 'lcm', 'isqrt', 'comb', 'perm', 'factorial'},
    'itertools': {
        'product', 'combinations', 'permutations', 'chain', 'accumulate', 'pairwise', 'islice', 'zip_longest',
    },
    'collections': {'defaultdict', 'deque'},
}
BUILTINS = set(
    'len range enumerate zip min max sum abs sorted reversed int str bool bytes list tuple dict set frozenset '
    'isinstance ord repr any all divmod pow getattr hasattr setattr map iter next type property staticmethod '
    'classmethod super Exception ValueError TypeError KeyError IndexError LookupError ZeroDivisionError '
    'ArithmeticError OverflowError RuntimeError NotImplementedError AttributeError StopIteration '
    'NotImplemented object float'.split()
)
# A test that runs examples leaves a builtin of the name _ behind.
NOT_ALLOWED = set(dir(builtins)) - BUILTINS - {'_'}


def trees():
    for path in FILES:
        yield path, ast.parse(path.read_text(encoding='utf-8'))


class RulesTest(unittest.TestCase):
    def test_only_python_files(self):
        self.assertTrue(FILES)
        for path in FILES:
            self.assertEqual(path.suffix, '.py', path)
            self.assertEqual(path.name, path.name.lower(), path)
        self.assertLessEqual(len(FILES), 100)

    def test_sizes_and_characters(self):
        for path in FILES:
            text = path.read_text(encoding='utf-8')
            self.assertLessEqual(len(text.splitlines()), 399, path)
            for line in text.split('\n'):
                self.assertLessEqual(len(line), 120, (path, line))
                self.assertTrue(all(' ' <= sign <= '~' for sign in line), (path, line))

    def test_functions_are_small(self):
        for path, tree in trees():
            for node in ast.walk(tree):
                if isinstance(node, ast.FunctionDef):
                    self.assertLessEqual(node.end_lineno - node.lineno + 1, 40, (path, node.name))

    def test_imports(self):
        for path, tree in trees():
            for node in ast.walk(tree):
                self.assertNotIsInstance(node, ast.Import, path)
                if isinstance(node, ast.ImportFrom) and not node.module.startswith('anyfont.'):
                    names = {alias.name for alias in node.names}
                    self.assertLessEqual(names, LIBRARY.get(node.module, set()), path)
                    self.assertTrue(all(alias.asname is None for alias in node.names), path)

    def test_no_floats(self):
        for path, tree in trees():
            for node in ast.walk(tree):
                self.assertNotIsInstance(node, ast.Div, path)
                self.assertNotIsInstance(getattr(node, 'value', None), float, path)

    def test_builtins(self):
        for path, tree in trees():
            for node in ast.walk(tree):
                if isinstance(node, ast.Name):
                    self.assertNotIn(node.id, NOT_ALLOWED, path)


if __name__ == '__main__':
    unittest.main()
