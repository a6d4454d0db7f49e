"""The package's form: those of the language's rules that can be seen at a glance."""

import ast
import re
import unittest
from pathlib import Path

from gardenplans import plans

PACKAGE = Path(__file__).resolve().parent.parent / "gardenplans"
FILES = [path for path in sorted(PACKAGE.rglob("*")) if path.is_file() and "__pycache__" not in path.parts]
CALLED = set(
    "len range enumerate zip min max sum abs sorted reversed int str bool list tuple dict set frozenset "
    "isinstance ord repr any all divmod".split()
)
WORDS = re.compile(
    r"\b(type|typing|typing_extensions|enum|Enum|IntEnum|StrEnum|Flag|IntFlag|Generic|Protocol|ABC|ABCMeta|"
    r"namedtuple|NamedTuple|TypedDict|TYPE_CHECKING|abstractmethod)\b|dataclass|overload|contextmanager"
)
LEFT_OUT = (
    ast.With, ast.Match, ast.Delete, ast.Global, ast.Nonlocal, ast.Assert, ast.Yield, ast.YieldFrom,
    ast.AsyncFunctionDef, ast.Await, ast.Import, ast.SetComp, ast.DictComp, ast.GeneratorExp, ast.NamedExpr,
    ast.Starred, ast.Div, ast.AnnAssign,
)


class Form(unittest.TestCase):
    def test_files(self):
        self.assertIn(PACKAGE / "__init__.py", FILES)
        for path in FILES:
            self.assertRegex(path.name, r"^(__init__|[a-z][a-z0-9_]*)\.py$")

    def test_signs_and_lengths(self):
        for path in FILES:
            text = path.read_text(encoding="utf-8")
            self.assertRegex(text, r"\A[ -~\n]*\Z")
            self.assertIsNone(WORDS.search(text), path)
            lines = text.split("\n")
            self.assertLessEqual(len(lines), 400)
            self.assertLessEqual(max(map(len, lines)), 120)

    def test_functions(self):
        for node in self.nodes(ast.FunctionDef):
            self.assertLessEqual(node.end_lineno - node.lineno + 1, 40, node.name)
            self.assertEqual((node.decorator_list, node.args.vararg, node.args.kwarg), ([], None, None))
            self.assertEqual(node.args.kwonlyargs, [])

    def test_imports(self):
        for node in self.nodes(ast.ImportFrom):
            self.assertEqual(node.level, 0)
            self.assertTrue(node.module.startswith("gardenplans."), node.module)

    def test_nothing_left_out_is_used(self):
        self.assertEqual(list(self.nodes(LEFT_OUT)), [])
        for node in self.nodes(ast.Constant):
            self.assertIn(type(node.value), (int, str, bool, type(None)))
        for node in self.nodes(ast.Assign):
            self.assertEqual(len(node.targets), 1)

    def test_calls_by_name(self):
        defined = {node.name for node in self.nodes((ast.FunctionDef, ast.ClassDef))}
        for node in self.nodes(ast.Call):
            if isinstance(node.func, ast.Name):
                self.assertIn(node.func.id, CALLED | defined)

    def nodes(self, kinds):
        for path in FILES:
            for node in ast.walk(ast.parse(path.read_text(encoding="utf-8"))):
                if isinstance(node, kinds):
                    yield node


class Interface(unittest.TestCase):
    def test_print_of_takes_a_garden_and_a_way_by_name(self):
        self.assertEqual(plans.print_of(garden=[], way=[]), [-6])

    def test_what_reads_a_plan_takes_it_by_name(self):
        for call in (plans.garden, plans.way, plans.judge):
            self.assertEqual(call(plan=[]), [-6, 0])

    def test_make_takes_a_garden_by_name(self):
        self.assertEqual(plans.make(garden=[]), [-6])


if __name__ == "__main__":
    unittest.main()
