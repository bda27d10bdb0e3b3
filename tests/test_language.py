"""The package's files keep to the part of Python that the program is written in, as far as a test can see."""

import ast
import builtins
import pathlib
import re
import unittest

PACKAGE = pathlib.Path(__file__).resolve().parent.parent / "partfiles"

STATEMENTS = (
    ast.Module, ast.ImportFrom, ast.alias, ast.FunctionDef, ast.arguments, ast.arg, ast.ClassDef, ast.Assign,
    ast.If, ast.While, ast.For, ast.Return, ast.Break, ast.Continue, ast.Pass, ast.Raise, ast.Try,
    ast.ExceptHandler, ast.Expr,
)
EXPRESSIONS = (
    ast.Constant, ast.Name, ast.List, ast.Tuple, ast.Dict, ast.BinOp, ast.UnaryOp, ast.BoolOp, ast.Compare,
    ast.IfExp, ast.Call, ast.keyword, ast.Attribute, ast.Subscript, ast.Slice, ast.ListComp, ast.comprehension,
    ast.JoinedStr, ast.FormattedValue, ast.Lambda, ast.expr_context, ast.boolop, ast.operator, ast.unaryop, ast.cmpop,
)
OWN_NAMES_OF_PYTHON = set(
    "len range enumerate zip min max sum abs sorted reversed int str bool list tuple dict set frozenset isinstance "
    "ord repr any all divmod Exception ValueError KeyError IndexError LookupError ZeroDivisionError "
    "ArithmeticError OverflowError RuntimeError NotImplementedError StopIteration".split())
METHODS_OF_PYTHON = set(
    "append clear copy count endswith extend find get index insert isalnum isalpha isdigit islower isspace isupper "
    "items join keys ljust lower lstrip partition pop remove replace reverse rfind rjust rpartition rsplit rstrip "
    "setdefault split splitlines startswith strip update upper values zfill bit_length".split())
WORDS_OUT = re.compile(
    r"\b(type|typing|typing_extensions|enum|Enum|IntEnum|StrEnum|Flag|IntFlag|Generic|Protocol|ABC|ABCMeta|"
    r"namedtuple|NamedTuple|TypedDict|TYPE_CHECKING|abstractmethod)\b|dataclass|overload|contextmanager")

NAMES_OUT = set(
    "register mro elements open input version_info with_traceback add_note attrgetter breakpoint builtins compile "
    "copyright credits delattr dir eval exec exit gc getattr globals hasattr help id importlib license locals "
    "methodcaller os quit setattr super type vars sys chr format format_map".split())


def package_files():
    return sorted(path for path in PACKAGE.rglob("*") if "__pycache__" not in path.parts)


def texts_and_trees():
    texts = [path.read_text(encoding="utf-8") for path in package_files()]
    return [(text, ast.parse(text)) for text in texts]


class Language(unittest.TestCase):

    def test_only_plain_files(self):
        self.assertIn(PACKAGE / "files.py", package_files())
        for path in package_files():
            self.assertRegex(path.name, r"^([a-z][a-z0-9_]*|__init__)\.py$")
            self.assertTrue(path.stem == "__init__" or not hasattr(builtins, path.stem))

    def test_signs_words_and_sizes(self):
        for text, tree in texts_and_trees():
            self.assertRegex(text, r"\A[ -~\n]*\Z")
            self.assertIsNone(WORDS_OUT.search(text))
            self.assertLessEqual(len(text.splitlines()), 400)
            self.assertLessEqual(max(len(line) for line in text.splitlines()), 120)
            for node in ast.walk(tree):
                if isinstance(node, ast.FunctionDef):
                    self.assertLessEqual(node.end_lineno - node.lineno + 1, 40)

    def test_statements_and_expressions(self):
        for text, tree in texts_and_trees():
            for node in ast.walk(tree):
                self.assertIsInstance(node, STATEMENTS + EXPRESSIONS)
                if isinstance(node, ast.Assign):
                    self.assertEqual(len(node.targets), 1)
                    self.assertNotIsInstance(node.targets[0], (ast.Tuple, ast.List))
                if isinstance(node, (ast.For, ast.While)):
                    self.assertEqual(node.orelse, [])
                if isinstance(node, ast.Expr) and node is not tree.body[0]:
                    self.assertIsInstance(node.value, ast.Call)
                if isinstance(node, ast.Constant):
                    self.assertIn(type(node.value), (int, str, bool, type(None)))
                if isinstance(node, ast.BinOp):
                    self.assertNotIsInstance(node.op, (ast.Div, ast.Pow, ast.MatMult))

    def test_imports(self):
        for text, tree in texts_and_trees():
            for node in ast.walk(tree):
                if isinstance(node, ast.ImportFrom):
                    self.assertIn(node, tree.body)
                    self.assertEqual(node.level, 0)
                    self.assertTrue(node.module.startswith("partfiles."))

    def test_names(self):
        defined = set()
        for text, tree in texts_and_trees():
            defined |= {node.name for node in ast.walk(tree) if isinstance(node, (ast.FunctionDef, ast.ClassDef))}
        for text, tree in texts_and_trees():
            for node in ast.walk(tree):
                if isinstance(node, ast.Name) and hasattr(builtins, node.id):
                    self.assertIn(node.id, OWN_NAMES_OF_PYTHON)
                    self.assertIsInstance(node.ctx, ast.Load)
                if isinstance(node, ast.arg):
                    self.assertFalse(hasattr(builtins, node.arg))
                if isinstance(node, (ast.FunctionDef, ast.ClassDef)):
                    self.assertTrue(node.name == "__init__" or not node.name.startswith("_"))
                    self.assertEqual(node.decorator_list, [])
                if isinstance(node, ast.Call) and isinstance(node.func, ast.Attribute):
                    self.assertIn(node.func.attr, METHODS_OF_PYTHON | defined)

    def test_names_that_are_not_used(self):
        for text, tree in texts_and_trees():
            for node in ast.walk(tree):
                for field in ("id", "attr", "arg", "name"):
                    self.assertNotIn(getattr(node, field, None), NAMES_OUT)

    def test_no_name_is_a_method_and_a_value(self):
        methods, values = set(), set()
        for text, tree in texts_and_trees():
            for node in ast.walk(tree):
                if isinstance(node, ast.ClassDef):
                    methods |= {row.name for row in node.body if isinstance(row, ast.FunctionDef)}
                if isinstance(node, ast.Attribute) and isinstance(node.ctx, ast.Store):
                    values.add(node.attr)
        self.assertEqual(methods & values, set())

    def test_no_local_is_called_like_an_import_or_a_class(self):
        for text, tree in texts_and_trees():
            taken = {name.name for row in tree.body if isinstance(row, ast.ImportFrom) for name in row.names}
            taken |= {row.name for row in tree.body if isinstance(row, ast.ClassDef)}
            for node in ast.walk(tree):
                if isinstance(node, ast.Name) and isinstance(node.ctx, ast.Store):
                    self.assertNotIn(node.id, taken)
                if isinstance(node, ast.arg):
                    self.assertNotIn(node.arg, taken)

    def test_no_two_files_draw_from_one_another(self):
        draws = {}
        for path in package_files():
            rows = ast.parse(path.read_text(encoding="utf-8")).body
            draws["partfiles." + path.stem] = {row.module for row in rows if isinstance(row, ast.ImportFrom)}
        while draws:
            ready = [name for name, modules in draws.items() if not modules & set(draws)]
            self.assertNotEqual(ready, [], f"in a ring: {sorted(draws)}")
            for name in ready:
                draws.pop(name)

    def test_imports_are_from_the_file_that_defines_the_name(self):
        for text, tree in texts_and_trees():
            for row in tree.body:
                if isinstance(row, ast.ImportFrom):
                    source = (PACKAGE / (row.module.split(".")[1] + ".py")).read_text(encoding="utf-8")
                    for name in row.names:
                        self.assertRegex(source, rf"(?m)^(def {name.name}\(|class {name.name}[(:]|{name.name} = )")
                        self.assertIn(name.name, text.split("\n\n", 2)[2])


if __name__ == "__main__":
    unittest.main()
