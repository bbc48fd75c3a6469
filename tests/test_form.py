"""The package's files keep to the part of Python that the program is written in."""

import ast
import builtins
import pathlib
import re
import unittest

import coldstore

FOLDER = pathlib.Path(coldstore.__file__).parent
FILES = sorted(FOLDER.rglob("*.py"))
ALLOWED_BUILTINS = set(
    "len range enumerate zip min max sum abs sorted reversed int str bool list tuple dict set frozenset isinstance ord "
    "repr any all divmod Exception ValueError TypeError KeyError IndexError LookupError ZeroDivisionError "
    "ArithmeticError OverflowError RuntimeError NotImplementedError AttributeError StopIteration".split()
)
FORBIDDEN_NAMES = set("register mro elements open input version_info with_traceback add_note format format_map".split())
FORBIDDEN_WORDS = (
    r"\b(type|typing|typing_extensions|enum|Enum|IntEnum|StrEnum|Flag|IntFlag|Generic|Protocol|ABC|ABCMeta|namedtuple"
    r"|NamedTuple|TypedDict|TYPE_CHECKING|abstractmethod)\b|dataclass|overload|contextmanager"
)
FORBIDDEN_NODES = (
    ast.With, ast.Match, ast.Delete, ast.Global, ast.Nonlocal, ast.Assert, ast.Yield, ast.YieldFrom, ast.Await,
    ast.AsyncFunctionDef, ast.SetComp, ast.DictComp, ast.GeneratorExp, ast.NamedExpr, ast.Starred, ast.Div, ast.AnnAssign,
    ast.Import,
)


def nodes():
    for path in FILES:
        for node in ast.walk(ast.parse(path.read_text())):
            yield path.name, node


class Form(unittest.TestCase):
    def test_nothing_but_python_files_lies_in_the_folder(self):
        others = [path for path in FOLDER.rglob("*") if "__pycache__" not in path.parts and path not in FILES]
        self.assertEqual(others, [])
        self.assertIn(FOLDER / "__init__.py", FILES)

    def test_signs_and_sizes(self):
        for path in FILES:
            rows = path.read_bytes().decode("ascii").split("\n")
            self.assertLessEqual(len(rows), 400, path)
            for row in rows:
                self.assertRegex(row, r"\A[ -~]{0,120}\Z", path)

    def test_only_the_package_itself_is_imported(self):
        for name, node in nodes():
            if isinstance(node, ast.ImportFrom):
                self.assertEqual(node.level, 0, name)
                self.assertRegex(node.module, r"\Acoldstore\.", name)
                self.assertNotIn("*", [alias.name for alias in node.names], name)

    def test_no_two_files_draw_from_one_another(self):
        drawn = {f"coldstore.{path.stem}": set() for path in FILES}
        for path in FILES:
            for node in ast.walk(ast.parse(path.read_text())):
                if isinstance(node, ast.ImportFrom):
                    drawn[f"coldstore.{path.stem}"].add(node.module)
        while drawn:
            ready = [name for name, others in drawn.items() if not others & set(drawn)]
            self.assertTrue(ready, drawn)
            for name in ready:
                drawn.pop(name)

    def test_the_top_of_a_file_holds_plain_values_alone(self):
        for path in FILES:
            for node in ast.parse(path.read_text()).body[1:]:
                self.assertIsInstance(node, (ast.ImportFrom, ast.FunctionDef, ast.ClassDef, ast.Assign), path)
                if isinstance(node, ast.Assign):
                    ast.literal_eval(node.value)

    def test_values_are_given_through_a_local_name(self):
        for name, node in nodes():
            if isinstance(node, ast.Attribute) and isinstance(node.ctx, ast.Store):
                self.assertIsInstance(node.value, ast.Name, name)

    def test_no_local_is_called_like_a_class_or_an_import(self):
        for path in FILES:
            tree = ast.parse(path.read_text())
            taken = {node.name for node in tree.body if isinstance(node, ast.ClassDef)}
            for node in tree.body:
                if isinstance(node, ast.ImportFrom):
                    taken |= {alias.name for alias in node.names}
            for node in ast.walk(tree):
                if isinstance(node, ast.Name) and isinstance(node.ctx, ast.Store):
                    self.assertNotIn(node.id, taken, path)
                if isinstance(node, ast.arg):
                    self.assertNotIn(node.arg, taken, path)

    def test_no_function_is_long(self):
        for name, node in nodes():
            if isinstance(node, ast.FunctionDef):
                self.assertLessEqual(node.end_lineno - node.lineno + 1, 40, (name, node.name))
                self.assertEqual(node.decorator_list, [])

    def test_only_allowed_steps(self):
        for name, node in nodes():
            self.assertNotIsInstance(node, FORBIDDEN_NODES, name)
            if isinstance(node, ast.Assign):
                self.assertEqual(len(node.targets), 1, name)
            if isinstance(node, ast.Constant):
                self.assertIn(type(node.value), (int, str, bool, type(None)), name)

    def test_only_allowed_names(self):
        for name, node in nodes():
            word = getattr(node, "id", None) or getattr(node, "attr", None) or getattr(node, "arg", None)
            if word is not None:
                self.assertRegex(word, r"\A[A-Za-z]\w*\Z", name)
                self.assertNotIn(word, FORBIDDEN_NAMES, name)
            if isinstance(node, ast.Name) and hasattr(builtins, node.id):
                self.assertIn(node.id, ALLOWED_BUILTINS, name)
                self.assertIsInstance(node.ctx, ast.Load, name)
            if isinstance(node, ast.arg):
                self.assertFalse(hasattr(builtins, node.arg), (name, node.arg))

    def test_no_forbidden_words(self):
        for path in FILES:
            self.assertIsNone(re.search(FORBIDDEN_WORDS, path.read_text()), path)
