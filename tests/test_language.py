"""The rules of LANGUAGE.md that can be seen row by row or name by name."""

import ast
import re
import unittest
from pathlib import Path

PACKAGE = Path(__file__).resolve().parent.parent / 'stackedsheets'

STATEMENTS = (
    ast.FunctionDef, ast.ClassDef, ast.ImportFrom, ast.Assign, ast.AugAssign, ast.AnnAssign, ast.If, ast.While,
    ast.For, ast.Return, ast.Break, ast.Continue, ast.Pass, ast.Raise, ast.Try, ast.Expr,
)
EXPRESSIONS_RULED_OUT = (
    ast.SetComp, ast.DictComp, ast.GeneratorExp, ast.NamedExpr, ast.Starred, ast.Div, ast.MatMult, ast.Await,
    ast.Yield, ast.YieldFrom,
)
BUILT_INS = set(
    'len range enumerate zip min max sum abs sorted reversed int str bool list tuple dict set frozenset isinstance '
    'ord repr any all divmod Exception ValueError TypeError KeyError IndexError LookupError ZeroDivisionError '
    'ArithmeticError OverflowError RuntimeError NotImplementedError AttributeError StopIteration'.split()
)
PYTHONS_METHODS = set(
    'append clear copy count endswith extend find get index insert isalnum isalpha isdigit islower isspace isupper '
    'items join keys ljust lower lstrip partition pop remove replace reverse rfind rjust rpartition rsplit rstrip '
    'setdefault split splitlines startswith strip update upper values zfill bit_length'.split()
)
WORDS_RULED_OUT = re.compile(
    r'\b(type|typing|typing_extensions|enum|Enum|IntEnum|StrEnum|Flag|IntFlag|Generic|Protocol|ABC|ABCMeta|'
    r'namedtuple|NamedTuple|TypedDict|TYPE_CHECKING|abstractmethod)\b|dataclass|overload|contextmanager'
)
PLAIN_NAME = re.compile(r'[A-Za-z][A-Za-z0-9_]*|__init__')


def files():
    return sorted(path for path in PACKAGE.rglob('*') if path.is_file() and '__pycache__' not in path.parts)


def names_made(tree):
    """Every name that a file binds at its top, and every own method or value."""
    top = set()
    for node in tree.body:
        if isinstance(node, (ast.FunctionDef, ast.ClassDef)):
            top.add(node.name)
        elif isinstance(node, ast.ImportFrom):
            top.update(alias.name for alias in node.names)
        elif isinstance(node, ast.Assign):
            top.update(target.id for target in node.targets)
    return top


class LanguageTest(unittest.TestCase):
    def setUp(self):
        self.texts = {path: path.read_text(encoding='utf-8') for path in files()}
        self.trees = {path: ast.parse(text) for path, text in self.texts.items()}

    def each_node(self):
        for path, tree in self.trees.items():
            for node in ast.walk(tree):
                yield f'{path.name}:{getattr(node, "lineno", 0)}', node

    def test_files_are_plain(self):
        self.assertIn('factory.py', [path.name for path in self.texts])
        for path in self.texts:
            self.assertRegex(path.name, r'^[a-z0-9_]+\.py$')

    def test_size_and_signs(self):
        for path, text in self.texts.items():
            rows = text.split('\n')
            self.assertLessEqual(len(rows), 400, path)
            for number, row in enumerate(rows, 1):
                self.assertRegex(row, r'^[ -~]{0,120}$', f'{path.name}:{number}')
                self.assertIsNone(WORDS_RULED_OUT.search(row), f'{path.name}:{number}')
        for where, node in self.each_node():
            if isinstance(node, ast.FunctionDef):
                self.assertLessEqual(node.end_lineno - node.lineno + 1, 40, where)

    def test_statements_and_expressions(self):
        for where, node in self.each_node():
            if isinstance(node, ast.stmt):
                self.assertIsInstance(node, STATEMENTS, where)
            self.assertNotIsInstance(node, EXPRESSIONS_RULED_OUT, where)
            if isinstance(node, ast.Assign):
                self.assertEqual(len(node.targets), 1, where)
            if isinstance(node, (ast.For, ast.While)):
                self.assertEqual(node.orelse, [], where)
            if isinstance(node, (ast.FunctionDef, ast.ClassDef)):
                self.assertEqual(node.decorator_list, [], where)

    def test_imports_are_from_the_defining_file_and_go_one_way(self):
        drawn = {}
        for path, tree in self.trees.items():
            drawn[path.stem] = []
            for node in ast.walk(tree):
                if isinstance(node, ast.ImportFrom):
                    package, source = node.module.split('.')
                    self.assertEqual((package, node.level), ('stackedsheets', 0), path)
                    made = names_made(ast.parse(self.texts[PACKAGE / f'{source}.py']))
                    self.assertLessEqual({alias.name for alias in node.names}, made, path)
                    drawn[path.stem].append(source)
        while drawn:
            ends = [stem for stem, sources in drawn.items() if not set(sources) & set(drawn)]
            self.assertTrue(ends, f'these draw from one another: {sorted(drawn)}')
            drawn = {stem: sources for stem, sources in drawn.items() if stem not in ends}

    def test_names(self):
        for path, tree in self.trees.items():
            known = names_made(tree) | BUILT_INS
            known |= {node.arg for node in ast.walk(tree) if isinstance(node, ast.arg)}
            stored = {n.id for n in ast.walk(tree) if isinstance(n, ast.Name) and isinstance(n.ctx, ast.Store)}
            self.assertFalse(stored & BUILT_INS, path)
            for node in ast.walk(tree):
                name = getattr(node, 'id', getattr(node, 'arg', getattr(node, 'attr', getattr(node, 'name', None))))
                if isinstance(name, str):
                    self.assertIsNotNone(PLAIN_NAME.fullmatch(name), f'{path.name}: {name}')
                if isinstance(node, ast.Name):
                    self.assertIn(node.id, known | stored, path)

    def test_no_name_is_a_method_and_a_value(self):
        methods, values = set(), set()
        for where, node in self.each_node():
            if isinstance(node, ast.ClassDef):
                methods |= {inner.name for inner in node.body if isinstance(inner, ast.FunctionDef)}
            if isinstance(node, ast.Attribute) and isinstance(node.ctx, ast.Store):
                values.add(node.attr)
        self.assertFalse(methods & values)
        self.assertFalse(values & PYTHONS_METHODS - {'count', 'index', 'find', 'get', 'join', 'copy'})
        for where, node in self.each_node():
            if isinstance(node, ast.Attribute) and isinstance(node.ctx, ast.Load):
                self.assertIn(node.attr, methods | values | PYTHONS_METHODS, where)


if __name__ == '__main__':
    unittest.main()
