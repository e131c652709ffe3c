"""The code of the package keeps to the plain subset of the language that it is written in."""

import ast
import pathlib
import re
import unittest

PACKAGE = pathlib.Path(__file__).resolve().parent.parent / "comersline"
BUILTINS = set("""len range enumerate zip min max sum abs sorted reversed int str bool bytes list tuple dict set
frozenset isinstance ord repr any all divmod Exception ValueError TypeError KeyError IndexError LookupError
ZeroDivisionError ArithmeticError OverflowError RuntimeError NotImplementedError AttributeError StopIteration
NotImplemented iter next""".split())
OTHER_BUILTINS = set(dir(__builtins__) if not isinstance(__builtins__, dict) else __builtins__) - BUILTINS
BARRED_WORDS = re.compile(r"\b(type|typing|typing_extensions|enum|Enum|IntEnum|StrEnum|Flag|IntFlag|Generic|Protocol|ABC"
                          r"|ABCMeta|namedtuple|NamedTuple|TypedDict|TYPE_CHECKING|abstractmethod)\b"
                          r"|dataclass|overload|contextmanager")
BARRED_NODES = (ast.Global, ast.AsyncFunctionDef, ast.Await, ast.Div, ast.MatMult, ast.Import)


def trees():
    for file in sorted(PACKAGE.glob("*.py")):
        text = file.read_text()
        yield file, text, ast.parse(text)


def bound_names(tree):
    for node in ast.walk(tree):
        if isinstance(node, ast.Name) and isinstance(node.ctx, ast.Store):
            yield node.id
        elif isinstance(node, ast.arg):
            yield node.arg
        elif isinstance(node, (ast.FunctionDef, ast.ClassDef)):
            yield node.name


def defined_names(tree):
    """What a file itself defines at module level, its imports left out."""
    for node in tree.body:
        if isinstance(node, (ast.FunctionDef, ast.ClassDef)):
            yield node.name
        elif isinstance(node, ast.Assign):
            yield node.targets[0].id


class Language(unittest.TestCase):
    def test_files_and_signs(self):
        for thing in PACKAGE.iterdir():
            if thing.name != "__pycache__":
                self.assertRegex(thing.name, r"^[a-z0-9_]+\.py$")
        for file, text, _ in trees():
            with self.subTest(file.name):
                self.assertTrue(all(" " <= sign <= "~" or sign == "\n" for sign in text))
                self.assertIsNone(BARRED_WORDS.search(text))

    def test_sizes(self):
        for file, text, tree in trees():
            lines = text.splitlines()
            self.assertLess(len(lines), 400, file.name)
            self.assertLessEqual(max(map(len, lines)), 120, file.name)
            for node in ast.walk(tree):
                if isinstance(node, ast.FunctionDef):
                    self.assertLessEqual(node.end_lineno - node.lineno + 1, 40, node.name)

    def test_module_level(self):
        for file, _, tree in trees():
            for node in tree.body:
                with self.subTest(file.name, line=node.lineno):
                    plain = isinstance(node, ast.Expr) and isinstance(node.value, ast.Constant)
                    kinds = (ast.ImportFrom, ast.FunctionDef, ast.ClassDef, ast.Assign)
                    self.assertTrue(plain or isinstance(node, kinds))

    def test_imports(self):
        names = {file.stem for file, _, _ in trees()}
        for file, _, tree in trees():
            for node in ast.walk(tree):
                if isinstance(node, ast.ImportFrom):
                    package, module = node.module.split(".")
                    self.assertEqual((package, node.level, module in names), ("comersline", 0, True))
                    defined = set(defined_names(ast.parse((PACKAGE / f"{module}.py").read_text())))
                    for name in node.names:
                        self.assertTrue(name.name in defined and name.asname is None, (file.name, name.name))

    def test_imports_are_used_and_hidden_by_nothing(self):
        for file, _, tree in trees():
            imported = {name.asname or name.name for node in tree.body if isinstance(node, ast.ImportFrom)
                        for name in node.names}
            read = {node.id for node in ast.walk(tree) if isinstance(node, ast.Name) and isinstance(node.ctx, ast.Load)}
            self.assertEqual(imported - read, set(), file.name)
            self.assertEqual(imported & set(bound_names(tree)), set(), file.name)
            functions = [node for node in tree.body if isinstance(node, (ast.FunctionDef, ast.ClassDef))]
            classes = {node.name for node in functions if isinstance(node, ast.ClassDef)}
            for node in functions:
                inner = set(bound_names(ast.Module(node.body, [])))
                self.assertEqual(inner & classes, set(), node.name)

    def test_attributes_are_no_methods(self):
        methods, attributes = set(), set()
        for _, _, tree in trees():
            for node in ast.walk(tree):
                if isinstance(node, ast.ClassDef):
                    methods |= {inner.name for inner in node.body if isinstance(inner, ast.FunctionDef)}
                if isinstance(node, ast.Attribute) and isinstance(node.ctx, ast.Store):
                    attributes.add(node.attr)
        self.assertEqual(methods & attributes, set())

    def test_names_and_statements(self):
        for file, _, tree in trees():
            for name in bound_names(tree):
                self.assertTrue(name in ("__init__", "__len__") or not name.startswith("_"), (file.name, name))
                self.assertNotIn(name, OTHER_BUILTINS | BUILTINS)
            for node in ast.walk(tree):
                self.assertNotIsInstance(node, BARRED_NODES, file.name)
                if isinstance(node, ast.Name):
                    self.assertNotIn(node.id, OTHER_BUILTINS, file.name)
                if isinstance(node, ast.Constant):
                    self.assertIsInstance(node.value, (int, str, bytes, type(None)), file.name)
                    self.assertFalse(isinstance(node.value, str) and "%" in node.value, file.name)
                if isinstance(node, ast.Call) and isinstance(node.func, ast.Name) and node.func.id == "isinstance":
                    self.assertEqual(len(node.args), 2)


if __name__ == "__main__":
    unittest.main()
