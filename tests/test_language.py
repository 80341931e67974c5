"""The package keeps to the small part of Python that it is written in, as far as a look at the code can tell."""

import ast
import builtins
import pathlib
import re
import unittest

PACKAGE = pathlib.Path(__file__).resolve().parent.parent / "keymaps"
FILES = sorted(path for path in PACKAGE.rglob("*") if path.is_file() and "__pycache__" not in path.parts)

STATEMENTS = (ast.Assign, ast.AugAssign, ast.If, ast.While, ast.For, ast.Return, ast.Break, ast.Continue, ast.Pass,
              ast.Raise, ast.Try, ast.Expr, ast.FunctionDef, ast.ClassDef, ast.ImportFrom)
LEFT_OUT = (ast.GeneratorExp, ast.SetComp, ast.DictComp, ast.NamedExpr, ast.Starred, ast.Div, ast.Yield, ast.Await)
BUILT_IN = """len range enumerate zip min max sum abs sorted reversed int str bool list tuple dict set frozenset
    isinstance ord repr any all divmod""".split()
NOT_USED = "register mro elements open input version_info with_traceback add_note format format_map".split()
NO_VALUES = "items keys values pop update append clear extend insert remove reverse setdefault sort args encode".split()
METHODS = """append clear copy count endswith extend find get index insert isalnum isalpha isdigit islower isspace
    isupper items join keys ljust lower lstrip partition pop remove replace reverse rfind rjust rpartition rsplit
    rstrip setdefault split splitlines startswith strip update upper values zfill bit_length""".split()
WORDS = re.compile(r"\b(type|typing|typing_extensions|enum|Enum|IntEnum|StrEnum|Flag|IntFlag|Generic|Protocol|ABC|"
                   r"ABCMeta|namedtuple|NamedTuple|TypedDict|TYPE_CHECKING|abstractmethod)\b"
                   r"|dataclass|overload|contextmanager")
TREES = [(path.name, ast.parse(path.read_text("utf-8"))) for path in FILES if path.suffix == ".py"]


def nodes(*kinds):
    return [(name, node) for name, tree in TREES for node in ast.walk(tree) if isinstance(node, kinds)]


class LanguageTest(unittest.TestCase):
    def test_files(self):
        self.assertIn("keyboard.py", [path.name for path in FILES])
        for path in FILES:
            self.assertRegex(path.name, r"\A[a-z0-9_]+\.py\Z")
            text = path.read_bytes()
            self.assertEqual([sign for sign in text if sign != 10 and not 32 <= sign <= 126], [], path.name)
            rows = text.decode("ascii").splitlines()
            self.assertLessEqual(len(rows), 399, path.name)
            self.assertLessEqual(max(map(len, rows), default=0), 120, path.name)
            self.assertIsNone(WORDS.search(text.decode("ascii")), path.name)

    def test_defs(self):
        for name, node in nodes(ast.FunctionDef):
            self.assertLessEqual(node.end_lineno - node.lineno + 1, 40, (name, node.name))
            given = node.args
            self.assertEqual((node.decorator_list, given.vararg, given.kwarg, given.kwonlyargs, given.posonlyargs),
                             ([], None, None, [], []), (name, node.name))

    def test_imports(self):
        for name, node in nodes(ast.Import, ast.ImportFrom):
            self.assertIsInstance(node, ast.ImportFrom, name)
            self.assertEqual((node.level, node.module.split(".")[0]), (0, "keymaps"), name)

    def test_statements_and_expressions(self):
        for name, node in nodes(ast.stmt):
            self.assertIsInstance(node, STATEMENTS, (name, node.lineno))
            self.assertFalse(isinstance(node, (ast.For, ast.While)) and node.orelse, (name, node.lineno))
            self.assertFalse(isinstance(node, ast.Assign) and len(node.targets) > 1, (name, node.lineno))
        self.assertEqual([(name, node) for name, node in nodes(*LEFT_OUT)], [])
        for name, node in nodes(ast.Constant):
            self.assertNotIsInstance(node.value, (float, bytes, complex), (name, node.lineno))

    def test_names(self):
        for name, node in nodes(ast.Name, ast.arg, ast.Attribute):
            word = getattr(node, "id", None) or getattr(node, "arg", None) or node.attr
            self.assertNotIn(word, NOT_USED, (name, node.lineno))
            if word != "__init__":
                self.assertRegex(word, r"\A[A-Za-z][A-Za-z0-9_]*\Z", (name, node.lineno))
            if isinstance(node, ast.arg) or isinstance(node, ast.Name) and isinstance(node.ctx, ast.Store):
                self.assertFalse(hasattr(builtins, word), (name, node.lineno, word))
            elif isinstance(node, ast.Name) and hasattr(builtins, word):
                self.assertIn(word, BUILT_IN, (name, node.lineno))

    def test_methods_and_values(self):
        own_methods = [node.name for name, node in nodes(ast.FunctionDef)]
        called = [id(node.func) for name, node in nodes(ast.Call)]
        for name, node in nodes(ast.Attribute):
            if id(node) in called:
                self.assertIn(node.attr, METHODS + own_methods, (name, node.lineno))
            else:
                self.assertNotIn(node.attr, NO_VALUES + own_methods, (name, node.lineno))


if __name__ == "__main__":
    unittest.main()
