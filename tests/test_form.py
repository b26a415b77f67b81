"""The interface as written, and those rules of the language that a look at the tree can show."""

import ast
import builtins
import inspect
import re
import unittest
from pathlib import Path

from digitway import checking, columns, decimals, desk, errors, feeds, gaps, numbers, reading, rounding, shapes, sure
from digitway import tables, writing
from digitway.shapes import DOUBLE

FOLDER = Path(shapes.__file__).parent

ALLOWED = set(
    "len range enumerate zip min max sum abs sorted reversed int str bool bytes list tuple dict set frozenset "
    "isinstance ord repr any all divmod Exception ValueError TypeError KeyError IndexError LookupError "
    "ZeroDivisionError ArithmeticError OverflowError RuntimeError NotImplementedError AttributeError "
    "StopIteration NotImplemented super property staticmethod classmethod".split()
)

SPECIAL = set("__init__ __eq__ __repr__ __str__ __len__ __enter__ __exit__ __call__".split())

BARRED = re.compile(
    r"\b(type|typing|typing_extensions|enum|Enum|IntEnum|StrEnum|Flag|IntFlag|Generic|Protocol|ABC|ABCMeta"
    r"|namedtuple|NamedTuple|TypedDict|TYPE_CHECKING|abstractmethod)\b|dataclass|overload|contextmanager"
)

LISTED = {
    errors: "BadValue BadText NotFinite NoRow CantBe Untold NoPaper",
    shapes: "HALF SINGLE DOUBLE is_whole is_shape raised",
    numbers: "Number infinite nan by_rank by_word greatest compare between",
    rounding: "NEAREST AWAY ZERO UP DOWN is_way to_whole rounded",
    decimals: "Decimal",
    reading: "read_text read read_decimal",
    writing: "bounds reads_back shortest is_shortest show with_figures with_places Expansion",
    tables: "BITS WIDTH entry is_exact opened by_table least_bits",
    gaps: "stands_at first_hit gap_paper",
    checking: "check_gap check_sure",
    sure: "unsure sure_paper first_lost enough",
    feeds: "follows Feed",
    columns: "Column",
    desk: "Desk",
}

METHODS = {
    numbers.Number: "__init__ shape sign kind parts value rank word up down negated __eq__ __str__ __repr__",
    decimals.Decimal: "__init__ digits tens sign value plain __eq__ __len__ __str__ __repr__",
    writing.Expansion: "__init__ take tens is_over taken copy __eq__",
    feeds.Feed: "__init__ push back heard pieces is_text told known copy __eq__ __len__",
    columns.Column: "__init__ shape way turn tell tell_within drop row_told number numbers flags settle same ranked "
    "total turned twice story copy __eq__ __len__",
    desk.Desk: "__init__ say",
}

ARGUMENTS = {
    shapes.is_whole: "(thing, least, most)",
    shapes.is_shape: "(thing)",
    shapes.raised: "(base, many)",
    numbers.Number: f"(shape={DOUBLE}, *, sign=0, significand=0, exponent=None)",
    numbers.infinite: f"(shape={DOUBLE}, *, sign=0)",
    numbers.nan: f"(shape={DOUBLE})",
    numbers.by_rank: f"(rank, shape={DOUBLE})",
    numbers.by_word: f"(word, shape={DOUBLE})",
    numbers.greatest: f"(shape={DOUBLE}, *, sign=0)",
    numbers.compare: "(one, other)",
    numbers.between: "(one, other)",
    rounding.is_way: "(thing)",
    rounding.to_whole: "(numerator, denominator=1, *, way='nearest')",
    rounding.rounded: f"(numerator, denominator=1, *, shape={DOUBLE}, way='nearest', sign=0)",
    decimals.Decimal: "(digits=0, power=0, *, sign=0)",
    reading.read_text: "(text)",
    reading.read: f"(text, shape={DOUBLE}, *, way='nearest')",
    reading.read_decimal: f"(decimal, shape={DOUBLE}, *, way='nearest')",
    writing.bounds: "(number)",
    writing.reads_back: "(number, decimal)",
    writing.shortest: "(number)",
    writing.is_shortest: "(number, decimal)",
    writing.show: "(number)",
    writing.with_figures: "(number, many=17, *, way='nearest')",
    writing.with_places: "(number, places=0, *, way='nearest')",
    writing.Expansion: "(number)",
    writing.Expansion.take: "(self, many=1)",
    tables.entry: "(power, *, bits=64)",
    tables.is_exact: "(power, *, bits=64)",
    tables.opened: "(decimal, *, bits=64, width=64)",
    tables.by_table: f"(decimal, shape={DOUBLE}, *, way='nearest', bits=64, width=64)",
    tables.least_bits: f"(decimal, shape={DOUBLE}, *, way='nearest', width=64)",
    gaps.stands_at: "(walk, steps)",
    gaps.first_hit: "(walk, least, most, *, stop=None)",
    gaps.gap_paper: "(walk, least, most, *, stop=None)",
    checking.check_gap: "(walk, least, most, paper, *, stop=None)",
    checking.check_sure: f"(power, paper, shape={DOUBLE}, *, bits=64, width=64)",
    sure.unsure: f"(power, shape={DOUBLE}, *, bits=64, width=64)",
    sure.sure_paper: f"(power, shape={DOUBLE}, *, bits=64, width=64)",
    sure.first_lost: "(shape, many)",
    sure.enough: "(shape)",
    feeds.follows: "(text)",
    feeds.Feed: f"(shape={DOUBLE}, *, way='nearest')",
    feeds.Feed.push: "(self, piece)",
    feeds.Feed.known: "(self, *, figures=False)",
    columns.Column: f"(shape={DOUBLE}, *, way='nearest', texts=())",
    columns.Column.turn: "(self, *, shape=None, way=None)",
    columns.Column.tell: "(self, text)",
    columns.Column.tell_within: "(self, texts, *, shape=None, way=None)",
    columns.Column.drop: "(self, place)",
    columns.Column.row_told: "(self, place)",
    columns.Column.number: "(self, place)",
    columns.Column.total: "(self, *, shape=None, way=None)",
    columns.Column.turned: "(self, *, shape=None, way=None)",
    columns.Column.twice: "(self, shape, *, way=None)",
    columns.Column.story: "(self, lines)",
    desk.Desk: "()",
    desk.Desk.say: "(self, line)",
}

# Where a class has its own ==, these take a list instead of a generator.
WANT_LISTS = set("any all min max sum sorted".split())


def files():
    return sorted(FOLDER.glob("*.py"))


def nodes(*kinds):
    """Each node of these kinds in the package, with the name of its file."""
    for path in files():
        for node in ast.walk(ast.parse(path.read_text())):
            if isinstance(node, kinds):
                yield path.name, node


class Interface(unittest.TestCase):
    def test_names(self):
        for module, names in LISTED.items():
            for name in names.split():
                self.assertTrue(hasattr(module, name), name)

    def test_methods_stand_in_the_class_itself(self):
        for kind, names in METHODS.items():
            for name in names.split():
                self.assertIn(name, vars(kind), kind.__name__)

    def test_arguments(self):
        for call, wanted in ARGUMENTS.items():
            self.assertEqual(str(inspect.signature(call)), wanted, call.__name__)


class Form(unittest.TestCase):
    def test_files(self):
        for path in FOLDER.iterdir():
            if path.name != "__pycache__":
                self.assertRegex(path.name, r"^[a-z0-9_]+\.py$")

    def test_lines_and_signs(self):
        for path in files():
            text = path.read_text()
            self.assertTrue(all(sign == "\n" or " " <= sign <= "~" for sign in text), path.name)
            self.assertLessEqual(len(text.splitlines()), 400, path.name)
            self.assertLessEqual(max(len(line) for line in text.splitlines()), 120, path.name)
            self.assertIsNone(BARRED.search(text), path.name)

    def test_functions_are_short(self):
        for name, node in nodes(ast.FunctionDef):
            self.assertLessEqual(node.end_lineno - node.lineno + 1, 40, f"{name} {node.name}")
            self.assertTrue(not node.name.startswith("_") or node.name in SPECIAL, f"{name} {node.name}")

    def test_imports_are_from_the_package_and_in_no_circle(self):
        seen = {}
        for name, node in nodes(ast.Import, ast.ImportFrom):
            self.assertIsInstance(node, ast.ImportFrom, name)
            self.assertTrue(node.level == 0 and node.module.startswith("digitway."), name)
            seen.setdefault(name, set()).add(node.module.removeprefix("digitway.") + ".py")
        while seen:
            free = [name for name in seen if not seen[name] & set(seen)]
            self.assertTrue(free, f"a circle among {sorted(seen)}")
            for name in free:
                del seen[name]

    def test_names(self):
        for name, node in nodes(ast.Name):
            self.assertFalse(node.id.startswith("_"), f"{name} {node.id}")
            if hasattr(builtins, node.id):
                self.assertIn(node.id, ALLOWED, name)
                self.assertIsInstance(node.ctx, ast.Load, f"{name} {node.id}")

    def test_no_name_is_a_method_and_an_attribute(self):
        methods = {
            part.name
            for name, node in nodes(ast.ClassDef)
            for part in node.body
            if isinstance(part, ast.FunctionDef)
        }
        stored = {node.attr for name, node in nodes(ast.Attribute) if isinstance(node.ctx, ast.Store)}
        self.assertEqual(methods & stored, set())

    def test_no_local_name_is_that_of_a_class_or_an_import(self):
        for path in files():
            tree = ast.parse(path.read_text())
            taken = {node.name for node in tree.body if isinstance(node, ast.ClassDef)}
            taken |= {alias.name for node in tree.body if isinstance(node, ast.ImportFrom) for alias in node.names}
            local = {node.id for node in ast.walk(tree) if isinstance(node, ast.Name) and isinstance(node.ctx, ast.Store)}
            local |= {node.arg for node in ast.walk(tree) if isinstance(node, ast.arg)}
            self.assertEqual(taken & local, set(), path.name)
            self.assertEqual({name for name in local if hasattr(builtins, name)}, set(), path.name)

    def test_every_import_is_used(self):
        for path in files():
            tree = ast.parse(path.read_text())
            taken = {alias.name for node in tree.body if isinstance(node, ast.ImportFrom) for alias in node.names}
            used = {node.id for node in ast.walk(tree) if isinstance(node, ast.Name)}
            self.assertEqual(taken - used, set(), path.name)

    def test_is_and_generators(self):
        for name, node in nodes(ast.Compare, ast.Call):
            if isinstance(node, ast.Call):
                if isinstance(node.func, ast.Name) and node.func.id in WANT_LISTS:
                    self.assertFalse(any(isinstance(given, ast.GeneratorExp) for given in node.args), name)
                continue
            for sign, other in zip(node.ops, node.comparators):
                if isinstance(sign, (ast.Is, ast.IsNot)):
                    self.assertTrue(isinstance(other, ast.Constant) and other.value in (None, True, False), name)

    def test_signs_of_numbers_and_strings(self):
        for name, node in nodes(ast.BinOp, ast.Constant):
            if isinstance(node, ast.Constant):
                self.assertNotIsInstance(node.value, (float, complex), name)
                self.assertFalse(isinstance(node.value, str) and "%" in node.value, name)
                continue
            self.assertNotIsInstance(node.op, (ast.Div, ast.MatMult), name)
            if isinstance(node.op, ast.Pow):
                self.assertTrue(isinstance(node.right, ast.Constant) and 0 <= node.right.value <= 64, name)


if __name__ == "__main__":
    unittest.main()
