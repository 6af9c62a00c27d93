"""Those rules of LANGUAGE.md that a look at the files of the package can tell."""

import ast
import unittest
from pathlib import Path

PACKAGE = Path(__file__).resolve().parent.parent / "spindlegate"

# L8: the builtins that may be used.
BUILTINS = set(
    "len range enumerate zip min max sum abs sorted reversed int str bool list tuple dict set isinstance ord repr any "
    "all divmod map iter next super property staticmethod classmethod Exception ValueError TypeError KeyError "
    "IndexError LookupError ZeroDivisionError ArithmeticError OverflowError RuntimeError NotImplementedError "
    "AttributeError StopIteration NotImplemented".split()
)
# L17, L12: names that are not used.
BARRED = set(
    "register mro elements open input law version_info with_traceback add_note attrgetter breakpoint builtins compile "
    "copyright credits delattr dir eval exec exit gc globals help id importlib license locals methodcaller os quit "
    "setattr type vars sys _cold _tuplegetter _outside _record _written_out _member_names".split()
)
# L17: words that do not occur outside of comments and docstrings.
BARRED_WORDS = set(
    "typing typing_extensions enum Enum IntEnum StrEnum Flag IntFlag Generic Protocol ABC ABCMeta namedtuple "
    "NamedTuple TypedDict TYPE_CHECKING abstractmethod dataclass overload contextmanager".split()
)
STATEMENTS = (
    ast.Assign, ast.AugAssign, ast.AnnAssign, ast.If, ast.While, ast.For, ast.Return, ast.Break, ast.Continue,
    ast.Pass, ast.Raise, ast.Assert, ast.Delete, ast.Nonlocal, ast.Match, ast.With, ast.Try, ast.Expr,
    ast.FunctionDef, ast.ClassDef, ast.ImportFrom,
)


def files():
    return sorted(path for path in PACKAGE.rglob("*") if path.is_file() and "__pycache__" not in path.parts)


def trees():
    return [(path, ast.parse(path.read_text(encoding="utf-8"))) for path in files()]


def nodes():
    """All nodes of all files, each with the place where it stands."""
    for path, tree in trees():
        for node in ast.walk(tree):
            yield f"{path.name}:{getattr(node, 'lineno', 0)}", node


def names_of(node):
    """The names that a node binds or reads."""
    if isinstance(node, ast.Name):
        return [node.id]
    if isinstance(node, (ast.FunctionDef, ast.ClassDef)):
        return [node.name]
    if isinstance(node, ast.Attribute):
        return [node.attr]
    if isinstance(node, (ast.arg, ast.keyword)):
        return [node.arg]
    if isinstance(node, (ast.MatchAs, ast.MatchStar)):
        return [node.name] if node.name else []
    if isinstance(node, ast.ImportFrom):
        return [alias.asname or alias.name for alias in node.names]
    return []


def bound_in(tree):
    """All names that a file binds anywhere."""
    stored = [node.id for node in ast.walk(tree) if isinstance(node, ast.Name) and not isinstance(node.ctx, ast.Load)]
    others = [name for node in ast.walk(tree) if not isinstance(node, (ast.Name, ast.Attribute, ast.keyword))
              for name in names_of(node)]
    return {*stored, *others}


class LanguageTest(unittest.TestCase):
    def test_the_folder_contains_python_files_only(self):
        self.assertIn("__init__.py", [path.name for path in files()])
        for path in files():
            self.assertEqual(path.suffix, ".py", path)
            self.assertEqual(path.name, path.name.lower())

    def test_lines_and_characters(self):
        for path in files():
            text = path.read_text(encoding="utf-8")
            self.assertLessEqual(len(text.splitlines()), 399, path)
            self.assertTrue(all(character == "\n" or " " <= character <= "~" for character in text), path)
            for line in text.split("\n"):
                self.assertLessEqual(len(line), 120, f"{path}: {line}")
                self.assertNotIn("_wall", line)
                self.assertNotIn("_WallAttr", line)

    def test_functions_have_at_most_40_lines(self):
        for place, node in nodes():
            if isinstance(node, ast.FunctionDef):
                self.assertLessEqual(node.end_lineno - node.lineno + 1, 40, place)

    def test_statements(self):
        for place, node in nodes():
            if isinstance(node, ast.stmt):
                self.assertIsInstance(node, STATEMENTS, place)

    def test_module_level(self):
        allowed = (ast.Expr, ast.ImportFrom, ast.FunctionDef, ast.ClassDef, ast.Assign)
        for path, tree in trees():
            for node in tree.body:
                self.assertIsInstance(node, allowed, path)
                if isinstance(node, ast.Expr):
                    self.assertIsInstance(node.value, ast.Constant, path)

    def test_imports_name_the_file_that_defines_the_name(self):
        by_module = {f"spindlegate.{path.stem}": tree for path, tree in trees()}
        for place, node in nodes():
            if isinstance(node, ast.ImportFrom):
                self.assertEqual(node.level, 0, place)
                self.assertIn(node.module, by_module, place)
                defined = [name for part in by_module[node.module].body if not isinstance(part, ast.ImportFrom)
                           for name in bound_in(part)]
                for alias in node.names:
                    self.assertIsNone(alias.asname, place)
                    self.assertIn(alias.name, defined, place)

    def test_no_two_files_import_from_each_other(self):
        reached = {f"spindlegate.{path.stem}": {node.module for node in ast.walk(tree)
                                               if isinstance(node, ast.ImportFrom)} for path, tree in trees()}
        for _ in reached:
            reached = {name: found.union(*[reached[other] for other in found]) for name, found in reached.items()}
        for name, found in reached.items():
            self.assertNotIn(name, found)

    def test_names(self):
        for place, node in nodes():
            for name in names_of(node):
                self.assertNotIn(name, BARRED, place)
                if name.startswith("__"):
                    self.assertTrue(isinstance(node, ast.FunctionDef) and name == "__init__", place)

    def test_builtins(self):
        builtin_names = set(dir(__import__("builtins")))
        for path, tree in trees():
            own = bound_in(tree)
            functions = [node.name for node in ast.walk(tree) if isinstance(node, ast.FunctionDef)]
            self.assertEqual(sorted(own & builtin_names - set(functions)), [], path)
            read = {node.id for node in ast.walk(tree) if isinstance(node, ast.Name)}
            self.assertEqual(sorted((read & builtin_names) - BUILTINS), [], path)

    def test_literals(self):
        for place, node in nodes():
            if isinstance(node, ast.Constant):
                self.assertNotIsInstance(node.value, (float, complex, bytes), place)
                if isinstance(node.value, str):
                    self.assertNotIn("%", node.value, place)
                    self.assertNotRegex(node.value, r"\._+$", place)
                    self.assertNotRegex(node.value, r"^__.*__$", place)
            self.assertNotIsInstance(node, (ast.Div, ast.Global, ast.Await), place)

    def test_barred_words(self):
        for path in files():
            for word in BARRED_WORDS:
                self.assertNotRegex(path.read_text(encoding="utf-8"), rf"\b{word}\b", path)

    def test_no_decorators(self):
        for place, node in nodes():
            if isinstance(node, ast.FunctionDef):
                self.assertEqual(node.decorator_list, [], place)


if __name__ == "__main__":
    unittest.main()
