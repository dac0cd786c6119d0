"""The package's files keep to the small part of Python that they are held to.

Only rules that can be read straight off the code are looked at here.
"""

import ast
import builtins
import os
import re
import unittest

PACKAGE = os.path.join(os.path.dirname(os.path.dirname(os.path.abspath(__file__))), "forcemark")

STATEMENTS = (
    ast.Assign, ast.AugAssign, ast.If, ast.While, ast.For, ast.Return, ast.Break, ast.Continue, ast.Pass,
    ast.Raise, ast.Try, ast.Expr, ast.FunctionDef, ast.ClassDef, ast.ImportFrom,
)
EXPRESSIONS = (
    ast.Constant, ast.Name, ast.List, ast.Tuple, ast.Dict, ast.Set, ast.BinOp, ast.UnaryOp, ast.BoolOp,
    ast.Compare, ast.IfExp, ast.Call, ast.Attribute, ast.Subscript, ast.Slice, ast.ListComp, ast.Lambda,
    ast.JoinedStr, ast.FormattedValue,
)
OWN_NAMES = set(
    "len range enumerate zip min max sum abs sorted reversed int str bool list tuple dict set frozenset isinstance "
    "ord repr any all divmod Exception ValueError TypeError KeyError IndexError LookupError ZeroDivisionError "
    "ArithmeticError OverflowError RuntimeError NotImplementedError AttributeError StopIteration".split()
)
METHODS = set(
    "append clear copy count endswith extend find get index insert isalnum isalpha isdigit islower isspace isupper "
    "items join keys ljust lower lstrip partition pop remove replace reverse rfind rjust rpartition rsplit rstrip "
    "setdefault split splitlines startswith strip update upper values zfill bit_length".split()
)
WORDS = re.compile(
    r"\b(type|typing|typing_extensions|enum|Enum|IntEnum|StrEnum|Flag|IntFlag|Generic|Protocol|ABC|ABCMeta|"
    r"namedtuple|NamedTuple|TypedDict|TYPE_CHECKING|abstractmethod)\b|dataclass|overload|contextmanager"
)


def sources():
    for name in sorted(os.listdir(PACKAGE)):
        if name != "__pycache__":
            with open(os.path.join(PACKAGE, name), encoding="utf-8", newline="") as file:
                yield name, file.read()


def bound_names(tree):
    for node in ast.walk(tree):
        if isinstance(node, (ast.FunctionDef, ast.ClassDef)):
            yield node.name
        elif isinstance(node, ast.arg):
            yield node.arg
        elif isinstance(node, ast.alias):
            yield node.asname or node.name
        elif isinstance(node, ast.Name) and isinstance(node.ctx, ast.Store):
            yield node.id


class Language(unittest.TestCase):
    def test_files(self):
        names = [name for name, text in sources()]
        self.assertIn("__init__.py", names)
        for name in names:
            self.assertRegex(name, r"^(__init__|[a-z][a-z0-9_]*)\.py$")

    def test_signs_and_sizes(self):
        for name, text in sources():
            with self.subTest(name):
                self.assertRegex(text, r"\A[\n -~]*\Z")
                self.assertLessEqual(len(text.splitlines()), 400)
                self.assertLessEqual(max(map(len, text.splitlines())), 120)
                self.assertIsNone(WORDS.search(text))

    def test_statements_and_expressions(self):
        for name, text in sources():
            for node in ast.walk(ast.parse(text)):
                with self.subTest(name, node=ast.dump(node)):
                    self.look_at_form(node)

    def look_at_form(self, node):
        if isinstance(node, ast.stmt):
            self.assertIsInstance(node, STATEMENTS)
        if isinstance(node, ast.expr):
            self.assertIsInstance(node, EXPRESSIONS)
        if isinstance(node, ast.Assign):
            self.assertEqual(len(node.targets), 1)
        if isinstance(node, (ast.For, ast.While)):
            self.assertEqual(node.orelse, [])
        if isinstance(node, ast.ListComp):
            self.assertEqual(len(node.generators), 1)
            self.assertLessEqual(len(node.generators[0].ifs), 1)
        if isinstance(node, ast.BinOp):
            self.assertNotIsInstance(node.op, (ast.Div, ast.MatMult))
        if isinstance(node, ast.Constant):
            self.assertIn(type(node.value), (int, str, bool, type(None)))
        if isinstance(node, ast.FunctionDef):
            self.assertLessEqual(node.end_lineno - node.lineno + 1, 40)
            self.assertEqual(node.decorator_list, [])
            self.assertEqual((node.args.vararg, node.args.kwarg, node.args.kwonlyargs), (None, None, []))

    def test_imports(self):
        for name, text in sources():
            for node in ast.walk(ast.parse(text)):
                if isinstance(node, ast.ImportFrom):
                    with self.subTest(name, node=ast.dump(node)):
                        self.assertEqual(node.level, 0)
                        self.assertRegex(node.module, r"^forcemark\.[a-z]")
                        self.assertNotIn("*", [alias.name for alias in node.names])

    def test_names(self):
        for name, text in sources():
            tree = ast.parse(text)
            bound = set(bound_names(tree))
            for word in bound:
                with self.subTest(name, word=word):
                    self.assertFalse(word.startswith("_"))
                    self.assertFalse(hasattr(builtins, word))
            for node in ast.walk(tree):
                if isinstance(node, ast.Name):
                    with self.subTest(name, word=node.id):
                        self.assertIn(node.id, bound | OWN_NAMES)
                if isinstance(node, ast.Attribute):
                    with self.subTest(name, word=node.attr):
                        self.assertIn(node.attr, METHODS)

    def test_each_name_is_bound_once_at_the_top(self):
        for name, text in sources():
            tops = [node for node in ast.parse(text).body if not isinstance(node, ast.Expr)]
            words = []
            for node in tops:
                if isinstance(node, ast.Assign):
                    words.extend(target.id for target in node.targets)
                elif isinstance(node, ast.ImportFrom):
                    words.extend(alias.name for alias in node.names)
                else:
                    words.append(node.name)
            with self.subTest(name):
                self.assertEqual(len(words), len(set(words)))


if __name__ == "__main__":
    unittest.main()
