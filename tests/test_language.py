"""The package's files keep to the small part of Python that they are held to.

Only rules that can be read straight off the code are looked at here.
"""

import ast
import builtins
import os
import re
import unittest

PACKAGE = os.path.join(os.path.dirname(os.path.dirname(os.path.abspath(__file__))), "forcemark")

STATEMENTS = (
    ast.Assign, ast.AugAssign, ast.If, ast.While, ast.For, ast.Return, ast.Break, ast.Continue, ast.Pass,
    ast.Raise, ast.Try, ast.Expr, ast.FunctionDef, ast.ClassDef, ast.ImportFrom,
)
EXPRESSIONS = (
    ast.Constant, ast.Name, ast.List, ast.Tuple, ast.Dict, ast.Set, ast.BinOp, ast.UnaryOp, ast.BoolOp,
    ast.Compare, ast.IfExp, ast.Call, ast.Attribute, ast.Subscript, ast.Slice, ast.ListComp, ast.Lambda,
    ast.JoinedStr, ast.FormattedValue,
)
OWN_NAMES = set(
    "len range enumerate zip min max sum abs sorted reversed int str bool list tuple dict set frozenset isinstance "
    "ord repr any all divmod Exception ValueError TypeError KeyError IndexError LookupError ZeroDivisionError "
    "ArithmeticError OverflowError RuntimeError NotImplementedError AttributeError StopIteration".split()
)
METHODS = set(
    "append clear copy count endswith extend find get index insert isalnum isalpha isdigit islower isspace isupper "
    "items join keys ljust lower lstrip partition pop remove replace reverse rfind rjust rpartition rsplit rstrip "
    "setdefault split splitlines startswith strip update upper values zfill bit_length".split()
)
NEVER = set(
    "register mro elements open input version_info with_traceback add_note attrgetter breakpoint builtins compile "
    "copyright credits delattr dir eval exec exit gc getattr globals hasattr help id importlib license locals "
    "methodcaller os quit setattr super type vars sys chr".split()
)
WALKED = ("zip", "enumerate", "reversed", "range", "items", "keys", "values")
WALKERS = ("list", "tuple", "dict", "sorted", "sum", "any", "all", "enumerate", "zip")
KEYWORDS = {
    "sorted": ("key", "reverse"), "min": ("key", "default"), "max": ("key", "default"), "sum": ("start",),
    "enumerate": ("start",), "zip": ("strict",),
}
WORDS = re.compile(
    r"\b(type|typing|typing_extensions|enum|Enum|IntEnum|StrEnum|Flag|IntFlag|Generic|Protocol|ABC|ABCMeta|"
    r"namedtuple|NamedTuple|TypedDict|TYPE_CHECKING|abstractmethod)\b|dataclass|overload|contextmanager"
)


def sources():
    for name in sorted(os.listdir(PACKAGE)):
        if name != "__pycache__":
            with open(os.path.join(PACKAGE, name), encoding="utf-8", newline="") as file:
                yield name, file.read()


def bound_names(tree):
    for node in ast.walk(tree):
        if isinstance(node, (ast.FunctionDef, ast.ClassDef)):
            yield node.name
        elif isinstance(node, ast.arg):
            yield node.arg
        elif isinstance(node, ast.alias):
            yield node.asname or node.name
        elif isinstance(node, ast.Name) and isinstance(node.ctx, ast.Store):
            yield node.id


def called(node):
    """The name by which a call calls, be it a method's; else an empty text."""
    if not isinstance(node, ast.Call):
        return ""
    return getattr(node.func, "id", getattr(node.func, "attr", ""))


def with_parents():
    """Each node of each file, with the one right above it and the file's name."""
    for name, text in sources():
        for parent in ast.walk(ast.parse(text)):
            for node in ast.iter_child_nodes(parent):
                yield name, parent, node


def defined_at_top(tree):
    """What a file defines itself: not what it draws from others."""
    found = []
    for node in tree.body:
        if isinstance(node, (ast.FunctionDef, ast.ClassDef)):
            found.append(node.name)
        elif isinstance(node, ast.Assign):
            found.extend(target.id for target in node.targets)
    return found


def is_plain(node):
    if isinstance(node, (ast.List, ast.Tuple)):
        return all(is_plain(part) for part in node.elts)
    return isinstance(node, ast.Constant) or isinstance(node, ast.UnaryOp) and is_plain(node.operand)


class Language(unittest.TestCase):
    def test_files(self):
        names = [name for name, text in sources()]
        self.assertIn("__init__.py", names)
        for name in names:
            self.assertRegex(name, r"^(__init__|[a-z][a-z0-9_]*)\.py$")

    def test_signs_and_sizes(self):
        for name, text in sources():
            with self.subTest(name):
                self.assertRegex(text, r"\A[\n -~]*\Z")
                self.assertLessEqual(len(text.splitlines()), 400)
                self.assertLessEqual(max(map(len, text.splitlines())), 120)
                self.assertIsNone(WORDS.search(text))

    def test_statements_and_expressions(self):
        for name, text in sources():
            for node in ast.walk(ast.parse(text)):
                with self.subTest(name, node=ast.dump(node)):
                    self.look_at_form(node)

    def look_at_form(self, node):
        if isinstance(node, ast.stmt):
            self.assertIsInstance(node, STATEMENTS)
        if isinstance(node, ast.expr):
            self.assertIsInstance(node, EXPRESSIONS)
        if isinstance(node, ast.Assign):
            self.assertEqual(len(node.targets), 1)
        if isinstance(node, (ast.For, ast.While)):
            self.assertEqual(node.orelse, [])
        if isinstance(node, ast.ListComp):
            self.assertEqual(len(node.generators), 1)
            self.assertLessEqual(len(node.generators[0].ifs), 1)
        if isinstance(node, ast.BinOp):
            self.assertNotIsInstance(node.op, (ast.Div, ast.MatMult))
        if isinstance(node, ast.Constant):
            self.assertIn(type(node.value), (int, str, bool, type(None)))
        if isinstance(node, ast.FunctionDef):
            self.assertLessEqual(node.end_lineno - node.lineno + 1, 40)
            self.assertEqual(node.decorator_list, [])
            self.assertEqual((node.args.vararg, node.args.kwarg, node.args.kwonlyargs), (None, None, []))

    def test_imports(self):
        for name, text in sources():
            for node in ast.walk(ast.parse(text)):
                if isinstance(node, ast.ImportFrom):
                    with self.subTest(name, node=ast.dump(node)):
                        self.assertEqual(node.level, 0)
                        self.assertRegex(node.module, r"^forcemark\.[a-z]")
                        self.assertNotIn("*", [alias.name for alias in node.names])

    def test_names(self):
        for name, text in sources():
            tree = ast.parse(text)
            bound = set(bound_names(tree))
            for word in bound:
                with self.subTest(name, word=word):
                    self.assertFalse(word.startswith("_"))
                    self.assertFalse(hasattr(builtins, word))
            for node in ast.walk(tree):
                if isinstance(node, ast.Name):
                    with self.subTest(name, word=node.id):
                        self.assertIn(node.id, bound | OWN_NAMES)
                if isinstance(node, ast.Attribute):
                    with self.subTest(name, word=node.attr):
                        self.assertIn(node.attr, METHODS)

    def test_each_name_is_bound_once_at_the_top(self):
        for name, text in sources():
            tops = [node for node in ast.parse(text).body if not isinstance(node, ast.Expr)]
            words = []
            for node in tops:
                if isinstance(node, ast.Assign):
                    words.extend(target.id for target in node.targets)
                elif isinstance(node, ast.ImportFrom):
                    words.extend(alias.name for alias in node.names)
                else:
                    words.append(node.name)
            with self.subTest(name):
                self.assertEqual(len(words), len(set(words)))

    def test_the_top_of_a_file(self):
        for name, text in sources():
            first, *others = ast.parse(text).body
            with self.subTest(name):
                self.assertIsInstance(first.value.value, str)
                for node in others:
                    self.assertIsInstance(node, (ast.ImportFrom, ast.FunctionDef, ast.ClassDef, ast.Assign))
                    if isinstance(node, ast.Assign):
                        self.assertTrue(is_plain(node.value))

    def test_names_are_drawn_from_the_file_that_defines_them_and_never_in_a_ring(self):
        trees = {name[:-3]: ast.parse(text) for name, text in sources()}
        drawn = {}
        for name, tree in trees.items():
            rows = [node for node in ast.walk(tree) if isinstance(node, ast.ImportFrom)]
            drawn[name] = {row.module.split(".")[1] for row in rows}
            for row in rows:
                self.assertIn(row, tree.body)
                for alias in row.names:
                    self.assertIn(alias.name, defined_at_top(trees[row.module.split(".")[1]]))
                    self.assertIsNone(alias.asname)
        while drawn:
            free = [name for name in drawn if not drawn[name] & set(drawn)]
            self.assertTrue(free, drawn)
            drawn = {name: drawn[name] for name in drawn if name not in free}

    def test_nothing_drawn_is_unused_or_given_another_meaning(self):
        for name, text in sources():
            tree = ast.parse(text)
            drawn = [a.name for node in tree.body if isinstance(node, ast.ImportFrom) for a in node.names]
            used = {node.id for node in ast.walk(tree) if isinstance(node, ast.Name)}
            bound = [n for node in tree.body if not isinstance(node, ast.ImportFrom) for n in bound_names(node)]
            with self.subTest(name):
                self.assertEqual([word for word in drawn if word not in used], [])
                self.assertEqual([word for word in drawn if word in bound], [])

    def test_a_statement_by_itself_is_a_call(self):
        for name, parent, node in with_parents():
            if isinstance(node, ast.Expr) and not isinstance(parent, ast.Module):
                with self.subTest(name, line=node.lineno):
                    self.assertIsInstance(node.value, ast.Call)

    def test_names_that_are_not_used(self):
        for name, parent, node in with_parents():
            with self.subTest(name, node=ast.dump(node)):
                self.assertNotIn(getattr(node, "id", getattr(node, "attr", "")), NEVER)

    def test_is_stands_beside_none_and_truths(self):
        for name, parent, node in with_parents():
            if isinstance(node, ast.Compare) and any(isinstance(op, (ast.Is, ast.IsNot)) for op in node.ops):
                with self.subTest(name, line=node.lineno):
                    self.assertIn(repr(getattr(node.comparators[0], "value", "")), ("None", "True", "False"))

    def test_keywords(self):
        for name, parent, node in with_parents():
            if isinstance(node, ast.Call):
                for keyword in node.keywords:
                    with self.subTest(name, line=node.lineno):
                        self.assertIn(keyword.arg, KEYWORDS.get(called(node), ()))

    def test_what_is_walked_is_walked_on_the_spot(self):
        for name, parent, node in with_parents():
            if called(node) in WALKED:
                with self.subTest(name, line=node.lineno):
                    behind_in = isinstance(parent, (ast.For, ast.comprehension)) and parent.iter is node
                    first_in = called(parent) in WALKERS and parent.args[0] is node
                    alone_in = called(parent) in ("min", "max") and parent.args == [node]
                    joined = called(parent) == "join" and isinstance(parent.func.value, ast.Constant)
                    self.assertTrue(behind_in or first_in or alone_in or joined)

    def test_sets_are_neither_kept_nor_walked(self):
        joins = (ast.Sub, ast.BitAnd, ast.BitOr, ast.BitXor)
        for name, parent, node in with_parents():
            of_sets = isinstance(node, ast.BinOp) and isinstance(node.op, joins) and called(node.left) == "set"
            if called(node) == "set" or of_sets:
                with self.subTest(name, line=node.lineno):
                    joined = isinstance(parent, ast.BinOp) and isinstance(parent.op, joins)
                    within = called(parent) in ("sorted", "len") and not parent.keywords
                    self.assertTrue(joined or within or isinstance(parent, ast.Compare))
            self.assertNotIsInstance(node, ast.Set)

    def test_errors(self):
        for name, parent, node in with_parents():
            if isinstance(node, ast.Raise):
                with self.subTest(name, line=node.lineno):
                    self.assertRegex(called(node.exc), "^Bad[A-Z][a-z]+$")
                    self.assertIsNone(getattr(node.cause, "value", None))
            if isinstance(node, ast.ExceptHandler):
                with self.subTest(name, line=node.lineno):
                    self.assertRegex(node.type.id, "^Bad[A-Z][a-z]+$")
            if isinstance(node, ast.Try):
                self.assertEqual(node.finalbody, [])

    def test_numbers_and_texts(self):
        for name, parent, node in with_parents():
            if isinstance(node, ast.Constant) and isinstance(node.value, str):
                with self.subTest(name, line=node.lineno):
                    self.assertNotIn(chr(37), node.value)
            if isinstance(node, ast.BinOp) and isinstance(node.op, ast.Pow):
                with self.subTest(name, line=node.lineno):
                    self.assertIn(node.right.value, range(65))
            if isinstance(node, ast.FormattedValue):
                with self.subTest(name, line=node.lineno):
                    self.assertIsInstance(node.value, ast.Name)
                    self.assertIsNone(node.format_spec)

    def test_no_annotations(self):
        for name, parent, node in with_parents():
            with self.subTest(name, node=ast.dump(node)):
                self.assertIsNone(getattr(node, "annotation", None))
                self.assertIsNone(getattr(node, "returns", None))


if __name__ == "__main__":
    unittest.main()
