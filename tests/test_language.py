"""That the package keeps to the rules of the language that a test can see."""

import ast
import builtins
import pathlib
import re
import unittest

PACKAGE = pathlib.Path(__file__).resolve().parent.parent / "betweenprimes"

STATEMENTS = (ast.Assign, ast.AugAssign, ast.If, ast.While, ast.For, ast.Return, ast.Break, ast.Continue,
              ast.Pass, ast.Raise, ast.Try, ast.Expr, ast.FunctionDef, ast.ClassDef, ast.ImportFrom)
EXPRESSIONS = (ast.Constant, ast.Name, ast.Attribute, ast.Subscript, ast.Slice, ast.Call, ast.BinOp, ast.UnaryOp,
               ast.BoolOp, ast.Compare, ast.IfExp, ast.List, ast.Tuple, ast.Dict, ast.ListComp, ast.Lambda,
               ast.JoinedStr, ast.FormattedValue)
BUILTINS = """len range enumerate zip min max sum abs sorted reversed int str bool list tuple dict set frozenset
    isinstance ord repr any all divmod Exception ValueError TypeError KeyError IndexError LookupError
    ZeroDivisionError ArithmeticError OverflowError RuntimeError NotImplementedError AttributeError
    StopIteration""".split()
METHODS = """append clear copy count endswith extend find get index insert isalnum isalpha isdigit islower isspace
    isupper items join keys ljust lower lstrip partition pop remove replace reverse rfind rjust rpartition rsplit
    rstrip setdefault split splitlines startswith strip update upper values zfill bit_length""".split()
WORDS = """type typing typing_extensions enum Enum IntEnum StrEnum Flag IntFlag Generic Protocol ABC ABCMeta
    namedtuple NamedTuple TypedDict TYPE_CHECKING abstractmethod register mro elements open input version_info
    with_traceback add_note""".split()


def sources():
    return {path: path.read_text(encoding="utf-8") for path in sorted(PACKAGE.glob("*.py"))}


def nodes():
    for path, text in sources().items():
        for node in ast.walk(ast.parse(text)):
            yield path.name, node


def defined(path):
    """The names that a file's top binds, but for its imports."""
    names = []
    for node in ast.parse(path.read_text(encoding="utf-8")).body:
        if isinstance(node, (ast.FunctionDef, ast.ClassDef)):
            names.append(node.name)
        elif isinstance(node, ast.Assign):
            names.append(node.targets[0].id)
    return names


def drawn(path):
    """The files that a file imports from."""
    return [PACKAGE / (node.module.split(".")[1] + ".py")
            for node in ast.walk(ast.parse(path.read_text(encoding="utf-8"))) if isinstance(node, ast.ImportFrom)]


class Language(unittest.TestCase):
    def test_files(self):
        self.assertIn("__init__.py", [path.name for path in sources()])
        for path in PACKAGE.iterdir():
            if path.name != "__pycache__":
                self.assertRegex(path.name, r"\A([a-z][a-z0-9_]*|__init__)\.py\Z")
                self.assertNotIn(path.stem, dir(builtins))

    def test_signs_and_sizes(self):
        for path, text in sources().items():
            with self.subTest(file=path.name):
                self.assertRegex(text, r"\A[ -~\n]*\Z")
                self.assertLessEqual(len(text.splitlines()), 400)
                self.assertLessEqual(max(map(len, text.splitlines())), 120)
        for name, node in nodes():
            if isinstance(node, ast.FunctionDef):
                self.assertLessEqual(node.end_lineno - node.lineno + 1, 40, f"{name} {node.name}")

    def test_words(self):
        for path, text in sources().items():
            with self.subTest(file=path.name):
                self.assertEqual(set(re.findall(r"\w+", text)) & set(WORDS), set())
                self.assertNotRegex(text, "dataclass|overload|contextmanager")

    def test_imports(self):
        for path in sources():
            for node in ast.walk(ast.parse(path.read_text(encoding="utf-8"))):
                if isinstance(node, ast.ImportFrom):
                    self.assertEqual(node.level, 0)
                    self.assertRegex(node.module, r"\Abetweenprimes\.[a-z][a-z0-9_]*\Z")
                    source = PACKAGE / (node.module.split(".")[1] + ".py")
                    for alias in node.names:
                        self.assertIsNone(alias.asname)
                        self.assertIn(alias.name, defined(source))

    def test_no_two_files_draw_from_one_another(self):
        left = {path: set(drawn(path)) for path in sources()}
        while left:
            free = [path for path, needed in left.items() if not needed & set(left)]
            self.assertTrue(free, f"a round of imports among {sorted(left)}")
            for path in free:
                left.pop(path)

    def test_forms(self):
        for name, node in nodes():
            with self.subTest(file=name, line=getattr(node, "lineno", 0)):
                if isinstance(node, ast.stmt):
                    self.assertIsInstance(node, STATEMENTS)
                if isinstance(node, ast.expr):
                    self.assertIsInstance(node, EXPRESSIONS)
                if isinstance(node, ast.Constant):
                    self.assertIn(node.value.__class__, (int, str, bool, None.__class__))
                if isinstance(node, ast.Assign):
                    self.assertEqual(len(node.targets), 1)
                    self.assertNotIsInstance(node.targets[0], (ast.Tuple, ast.List))
                if isinstance(node, ast.BinOp):
                    self.assertNotIsInstance(node.op, (ast.Div, ast.MatMult, ast.Pow))
                if isinstance(node, (ast.For, ast.While)):
                    self.assertEqual(node.orelse, [])
                if isinstance(node, ast.FunctionDef):
                    self.assertEqual(node.decorator_list, [])
                    plain = node.args.vararg is None and node.args.kwarg is None and not node.args.kwonlyargs
                    self.assertTrue(plain)
                if isinstance(node, ast.ClassDef):
                    self.assertEqual(node.decorator_list, [])

    def test_names(self):
        methods = {inner.name for _, node in nodes() if isinstance(node, ast.ClassDef)
                   for inner in node.body if isinstance(inner, ast.FunctionDef)}
        for name, node in nodes():
            with self.subTest(file=name, line=getattr(node, "lineno", 0)):
                if isinstance(node, ast.Name) and isinstance(node.ctx, ast.Store):
                    self.assertNotIn(node.id, dir(builtins))
                    self.assertFalse(node.id.startswith("_"))
                if isinstance(node, ast.Name) and node.id in dir(builtins):
                    self.assertIn(node.id, BUILTINS)
                if isinstance(node, ast.arg):
                    self.assertNotIn(node.arg, dir(builtins))
                    self.assertFalse(node.arg.startswith("_"))
                if isinstance(node, ast.Call) and isinstance(node.func, ast.Attribute):
                    self.assertIn(node.func.attr, METHODS + sorted(methods))

    def test_each_name_once_at_the_top(self):
        for path in sources():
            names = defined(path)
            with self.subTest(file=path.name):
                self.assertEqual(len(names), len(set(names)))


if __name__ == "__main__":
    unittest.main()
