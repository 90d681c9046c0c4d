"""What can be seen of the package's files without running them: the part of Python that they keep to."""

import ast
import builtins
import pathlib
import re
import unittest

PACKAGE = pathlib.Path(__file__).resolve().parent.parent / "sumsweighed"
FILES = sorted(PACKAGE.glob("*.py"))

STATEMENTS = (
    ast.Assign, ast.AugAssign, ast.If, ast.While, ast.For, ast.Return, ast.Break, ast.Continue, ast.Pass, ast.Raise,
    ast.Try, ast.Expr, ast.FunctionDef, ast.ClassDef, ast.ImportFrom,
)
EXPRESSIONS = (
    ast.BinOp, ast.UnaryOp, ast.BoolOp, ast.Compare, ast.IfExp, ast.Call, ast.Attribute, ast.Subscript, ast.Slice,
    ast.ListComp, ast.Constant, ast.Name, ast.List, ast.Tuple, ast.Dict, ast.Lambda, ast.JoinedStr, ast.FormattedValue,
)
OWN_OF_PYTHON = (
    "len range enumerate zip min max sum abs sorted reversed int str bool list tuple dict set frozenset isinstance ord "
    "repr any all divmod Exception ValueError TypeError KeyError IndexError LookupError ZeroDivisionError "
    "ArithmeticError OverflowError RuntimeError NotImplementedError AttributeError StopIteration"
).split()
METHODS = (
    "append clear copy count endswith extend find get index insert isalnum isalpha isdigit islower isspace isupper "
    "items join keys ljust lower lstrip partition pop remove replace reverse rfind rjust rpartition rsplit rstrip "
    "setdefault split splitlines startswith strip update upper values zfill bit_length"
).split()
WORDS_NOT_USED = (
    "type typing typing_extensions enum Enum IntEnum StrEnum Flag IntFlag Generic Protocol ABC ABCMeta namedtuple "
    "NamedTuple TypedDict TYPE_CHECKING abstractmethod"
).split()

KEYWORDS = {
    "sorted": ["key", "reverse"], "min": ["key", "default"], "max": ["key", "default"], "sum": ["start"],
    "enumerate": ["start"], "zip": ["strict"],
}
WALKED_AT_ONCE = "zip enumerate reversed range items keys values".split()
WALKERS = "list tuple dict sorted sum any all enumerate zip min max".split()


def bound_names(tree):
    for node in ast.walk(tree):
        if isinstance(node, ast.Name) and isinstance(node.ctx, ast.Store):
            yield node.id
        if isinstance(node, ast.arg):
            yield node.arg
        if isinstance(node, (ast.FunctionDef, ast.ClassDef)):
            yield node.name


def own_methods():
    classes = [node for name, text, tree in each() for node in ast.walk(tree) if isinstance(node, ast.ClassDef)]
    return [node.name for one in classes for node in one.body if isinstance(node, ast.FunctionDef)]


def each():
    """Each file's name, its text and its tree."""
    texts = [(path.name, path.read_text(encoding="utf-8")) for path in FILES]
    return [(name, text, ast.parse(text)) for name, text in texts]


class Language(unittest.TestCase):
    def test_what_lies_in_the_package(self):
        names = sorted(path.name for path in PACKAGE.iterdir() if path.name != "__pycache__")
        self.assertEqual(names, [path.name for path in FILES])
        self.assertIn("__init__.py", names)
        self.assertIn("comparing.py", names)

    def test_sizes_and_signs(self):
        for name, text, tree in each():
            with self.subTest(file=name):
                self.assertLessEqual(len(text.splitlines()), 400)
                self.assertLessEqual(max(len(row) for row in text.splitlines()), 120)
                self.assertEqual([sign for sign in text if sign != "\n" and not " " <= sign <= "~"], [])
                for node in ast.walk(tree):
                    if isinstance(node, ast.FunctionDef):
                        self.assertLessEqual(node.end_lineno - node.lineno + 1, 40)

    def test_words(self):
        for name, text, tree in each():
            with self.subTest(file=name):
                self.assertEqual([word for word in WORDS_NOT_USED if re.search(rf"\b{word}\b", text)], [])

    def test_statements_and_expressions(self):
        for name, text, tree in each():
            with self.subTest(file=name):
                for node in ast.walk(tree):
                    if isinstance(node, ast.stmt):
                        self.assertIsInstance(node, STATEMENTS)
                    if isinstance(node, ast.expr):
                        self.assertIsInstance(node, EXPRESSIONS)
                    if isinstance(node, (ast.For, ast.While)):
                        self.assertEqual(node.orelse, [])
                    if isinstance(node, (ast.FunctionDef, ast.ClassDef)):
                        self.assertEqual(node.decorator_list, [])
                    if isinstance(node, ast.Assign):
                        self.assertEqual(len(node.targets), 1)
                    if isinstance(node, ast.ListComp):
                        self.assertEqual(len(node.generators), 1)
                        self.assertLessEqual(len(node.generators[0].ifs), 1)
                    if isinstance(node, ast.Compare) and isinstance(node.ops[0], (ast.Is, ast.IsNot)):
                        self.assertIn(ast.unparse(node.comparators[0]), ("None", "True", "False"))
                    self.assertNotIsInstance(node, ast.Div)

    def test_only_the_packages_own_is_imported(self):
        for name, text, tree in each():
            with self.subTest(file=name):
                for node in ast.walk(tree):
                    self.assertNotIsInstance(node, ast.Import)
                    if isinstance(node, ast.ImportFrom):
                        self.assertEqual(node.level, 0)
                        self.assertTrue(node.module.startswith("sumsweighed."))

    def test_names(self):
        for name, text, tree in each():
            with self.subTest(file=name):
                for bound in bound_names(tree):
                    self.assertNotIn(bound, dir(builtins))
                    self.assertTrue(bound == "__init__" or re.fullmatch(r"[A-Za-z][A-Za-z0-9_]*", bound), bound)
                for node in ast.walk(tree):
                    if isinstance(node, ast.Name) and node.id in dir(builtins):
                        self.assertIn(node.id, OWN_OF_PYTHON)
                    if isinstance(node, ast.Call) and isinstance(node.func, ast.Attribute):
                        self.assertIn(node.func.attr, METHODS + own_methods())

    def test_no_name_hides_an_import_or_a_class(self):
        for name, text, tree in each():
            taken = [alias.name for node in ast.walk(tree) if isinstance(node, ast.ImportFrom) for alias in node.names]
            classes = [node.name for node in ast.walk(tree) if isinstance(node, ast.ClassDef)]
            with self.subTest(file=name):
                self.assertEqual(sorted(set(taken) & set(bound_names(tree))), [])
                self.assertEqual([one for one in classes if list(bound_names(tree)).count(one) > 1], [])

    def test_each_name_is_bound_once_at_the_top(self):
        for name, text, tree in each():
            bound = [node.name for node in tree.body if isinstance(node, (ast.FunctionDef, ast.ClassDef))]
            bound += [node.targets[0].id for node in tree.body if isinstance(node, ast.Assign)]
            with self.subTest(file=name):
                self.assertEqual(len(bound), len(set(bound)))

    def test_parameters(self):
        for name, text, tree in each():
            for node in ast.walk(tree):
                if isinstance(node, ast.arguments):
                    with self.subTest(file=name, parameters=ast.unparse(node)):
                        self.assertEqual([node.vararg, node.kwarg], [None, None])
                        self.assertEqual(node.kwonlyargs + node.posonlyargs, [])

    def test_keywords(self):
        for name, text, tree in each():
            for node in ast.walk(tree):
                if isinstance(node, ast.Call) and isinstance(node.func, ast.Name) and node.func.id in OWN_OF_PYTHON:
                    allowed = KEYWORDS.get(node.func.id, [])
                    with self.subTest(file=name, call=ast.unparse(node)):
                        self.assertEqual([one.arg for one in node.keywords if one.arg not in allowed], [])

    def test_powers_are_written(self):
        for name, text, tree in each():
            for node in ast.walk(tree):
                if isinstance(node, (ast.BinOp, ast.AugAssign)) and isinstance(node.op, ast.Pow):
                    with self.subTest(file=name, power=ast.unparse(node)):
                        self.assertIsInstance(node, ast.BinOp)
                        self.assertIsInstance(node.right, ast.Constant)

    def test_what_is_walked_at_once(self):
        for name, text, tree in each():
            walked = []
            for node in ast.walk(tree):
                if isinstance(node, (ast.For, ast.comprehension)):
                    walked.append(node.iter)
                if isinstance(node, ast.Call) and isinstance(node.func, ast.Name) and node.func.id in WALKERS:
                    walked.extend(node.args)
            for node in ast.walk(tree):
                if isinstance(node, ast.Call) and ast.unparse(node.func).split(".")[-1] in WALKED_AT_ONCE:
                    with self.subTest(file=name, call=ast.unparse(node)):
                        self.assertIn(node, walked)


if __name__ == "__main__":
    unittest.main()
