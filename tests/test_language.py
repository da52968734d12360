"""The package keeps to the small part of Python that it is written in: the rules that are cheap to check."""

import ast
import pathlib
import re
import unittest

from tests.helper import answers

PACKAGE = pathlib.Path(__file__).resolve().parent.parent / "poolreferee"
FILES = sorted(path for path in PACKAGE.rglob("*") if "__pycache__" not in path.parts)
TREES = {path.name: ast.parse(path.read_text()) for path in FILES if path.suffix == ".py"}

LEFT_OUT = (
    ast.With, ast.Match, ast.Delete, ast.Global, ast.Nonlocal, ast.Assert, ast.Yield, ast.YieldFrom, ast.AsyncFor,
    ast.AsyncFunctionDef, ast.AsyncWith, ast.Await, ast.SetComp, ast.DictComp, ast.GeneratorExp, ast.NamedExpr,
    ast.Starred, ast.Div, ast.AnnAssign,
)
PYTHONS_OWN = (
    "len range enumerate zip min max sum abs sorted reversed int str bool list tuple dict set frozenset isinstance ord "
    "repr any all divmod"
).split()
WORDS_LEFT_OUT = (
    r"\b(type|typing|typing_extensions|enum|Enum|IntEnum|StrEnum|Flag|IntFlag|Generic|Protocol|ABC|ABCMeta|namedtuple"
    r"|NamedTuple|TypedDict|TYPE_CHECKING|abstractmethod)\b|dataclass|overload|contextmanager"
)


def all_of(kind):
    return [(name, node) for name, tree in TREES.items() for node in ast.walk(tree) if isinstance(node, kind)]


def members(kind):
    """Of the package's classes: the names of their methods, or of their values."""
    if kind == "methods":
        return {part.name for _, node in all_of(ast.ClassDef) for part in node.body if isinstance(part, ast.FunctionDef)}
    return {node.attr for _, node in all_of(ast.Attribute) if isinstance(node.ctx, ast.Store)}


class LanguageTest(unittest.TestCase):
    def test_the_package_holds_plain_python_files_alone(self):
        self.assertIn("race.py", TREES)
        for path in FILES:
            self.assertRegex(path.name, r"\A(__init__|[a-z][a-z0-9_]*)\.py\Z")

    def test_sizes_and_signs(self):
        for path in FILES:
            text = path.read_text()
            self.assertRegex(text, r"\A[ -~\n]*\Z")
            self.assertLessEqual(len(text.splitlines()), 399)
            for line in text.splitlines():
                self.assertLessEqual(len(line), 120)
        for _, node in all_of(ast.FunctionDef):
            self.assertLessEqual(node.end_lineno - node.lineno + 1, 40)

    def test_words_left_out(self):
        for path in FILES:
            self.assertIsNone(re.search(WORDS_LEFT_OUT, path.read_text()))

    def test_statements_and_expressions_left_out(self):
        self.assertEqual(all_of(LEFT_OUT), [])
        for _, node in all_of((ast.For, ast.While)):
            self.assertEqual(node.orelse, [])
        for _, node in all_of(ast.Assign):
            self.assertEqual(len(node.targets), 1)
        for _, node in all_of(ast.Constant):
            self.assertIn(type(node.value), (int, str, bool, type(None)))

    def test_functions_have_plain_parameters(self):
        for _, node in all_of(ast.FunctionDef):
            given = node.args
            self.assertEqual((given.vararg, given.kwarg, given.kwonlyargs, given.posonlyargs), (None, None, [], []))
            self.assertEqual((given.defaults, node.decorator_list), ([], []))

    def test_imports_draw_from_the_defining_file_alone(self):
        drawn = {}
        for name, node in all_of((ast.Import, ast.ImportFrom)):
            self.assertIsInstance(node, ast.ImportFrom)
            self.assertRegex(node.module, r"\Apoolreferee\.[a-z_]+\Z")
            source = node.module.split(".")[1] + ".py"
            drawn.setdefault(name, set()).add(source)
            bound = {part.name for part in TREES[source].body if isinstance(part, (ast.FunctionDef, ast.ClassDef))}
            bound |= {part.targets[0].id for part in TREES[source].body if isinstance(part, ast.Assign)}
            for alias in node.names:
                self.assertIn(alias.name, bound)
                self.assertIsNone(alias.asname)
        self.assert_no_ring(drawn)

    def assert_no_ring(self, drawn):
        for name in drawn:
            reached = set()
            ahead = [name]
            while ahead:
                for source in drawn.get(ahead.pop(), ()):
                    self.assertNotEqual(source, name)
                    if source not in reached:
                        reached.add(source)
                        ahead.append(source)

    def test_names(self):
        for _, node in all_of(ast.Name):
            self.assertNotIn("__", node.id)
            self.assertFalse(node.id.startswith("_"))
            if isinstance(node.ctx, ast.Store):
                self.assertNotIn(node.id, PYTHONS_OWN)
        for member in sorted(members("methods") | members("values")):
            for kind in (int, str, list, dict, set, bytes, tuple):
                if member != "__init__":
                    self.assertFalse(hasattr(kind, member), member)
        self.assertEqual(members("methods") & members("values"), set())

    def test_the_interface_is_written_where_its_name_tells(self):
        found = [(name, [part.arg for part in node.args.args]) for name, node in all_of(ast.FunctionDef)
                 if node.name == "answers"]
        self.assertEqual(found, [("race.py", ["calls"])])
        self.assertEqual(answers.__module__, "poolreferee.race")


if __name__ == "__main__":
    unittest.main()
