"""The package keeps to the part of Python that it is to be written in (the rules that a plain look can see)."""

import ast
import builtins
import re
import unittest
from pathlib import Path

FOLDER = Path(__file__).resolve().parent.parent / "weightrooms"

PYTHONS_OWN = set(
    """len range enumerate zip min max sum abs sorted reversed int str bool bytes list tuple dict set isinstance ord
    repr any all divmod Exception ValueError TypeError KeyError IndexError LookupError ZeroDivisionError
    ArithmeticError OverflowError RuntimeError NotImplementedError AttributeError StopIteration""".split()
)
UNSEEN = re.compile(
    r"\b(type|typing|typing_extensions|enum|Enum|IntEnum|StrEnum|Flag|IntFlag|Generic|Protocol|ABC|ABCMeta|namedtuple"
    r"|NamedTuple|TypedDict|TYPE_CHECKING|abstractmethod)\b|dataclass|overload|contextmanager"
)
METHODS = set(
    """append clear copy count endswith extend find get index insert isalnum isalpha isdigit islower isspace isupper
    items join keys ljust lower lstrip partition pop remove replace reverse rfind rjust rpartition rsplit rstrip
    setdefault split splitlines startswith strip update upper values zfill bit_length add discard""".split()
)
KEYWORDS = {"sorted": {"key", "reverse"}, "min": {"key", "default"}, "max": {"key", "default"}}
UNDERSCORED = {"__init__", "__eq__", "__repr__", "__str__", "__len__"}
BARRED = (
    ast.With, ast.AsyncWith, ast.Match, ast.Global, ast.Nonlocal, ast.Yield, ast.YieldFrom, ast.AsyncFunctionDef,
    ast.AsyncFor, ast.Await, ast.GeneratorExp, ast.NamedExpr, ast.Div, ast.Import,
)
PLAIN_TOP = (ast.ImportFrom, ast.FunctionDef, ast.ClassDef, ast.Assign)


def files():
    """Each file of the package, as its path, text and tree."""
    for path in sorted(FOLDER.glob("*.py")):
        text = path.read_text(encoding="utf-8")
        yield path, text, ast.parse(text)


def named(node):
    """The names that a node of the tree speaks of or gives."""
    if isinstance(node, ast.Name):
        return [node.id]
    if isinstance(node, ast.arg):
        return [node.arg]
    if isinstance(node, ast.Attribute):
        return [node.attr]
    if isinstance(node, (ast.FunctionDef, ast.ClassDef)):
        return [node.name]
    return []


class Language(unittest.TestCase):
    def each_node(self):
        for path, _, tree in files():
            for node in ast.walk(tree):
                yield f"{path.name}:{getattr(node, 'lineno', 0)}", node

    def test_only_plain_files_lie_in_the_package(self):
        names = [path.name for path in FOLDER.iterdir() if path.name != "__pycache__"]
        self.assertIn("__init__.py", names)
        for name in names:
            self.assertRegex(name, r"\A(__init__|[a-z][a-z0-9_]*)\.py\Z")
            self.assertNotRegex(name, r"\A(law_|test|site|conftest)")

    def test_signs_sizes_and_words(self):
        for path, text, _ in files():
            self.assertRegex(text, r"\A[ -~\n]*\Z", path.name)
            self.assertIsNone(UNSEEN.search(text), path.name)
            self.assertLessEqual(len(text.splitlines()), 400, path.name)
            self.assertLessEqual(max(len(row) for row in text.splitlines()), 120, path.name)

    def test_functions_are_short_and_plain(self):
        for where, node in self.each_node():
            if isinstance(node, ast.FunctionDef):
                self.assertLessEqual(node.end_lineno - node.lineno + 1, 40, where)
                self.assertEqual(node.decorator_list, [], where)
                self.assertEqual((node.args.vararg, node.args.kwarg, node.args.posonlyargs), (None, None, []), where)

    def test_the_top_of_a_file(self):
        for path, _, tree in files():
            self.assertIsNotNone(ast.get_docstring(tree), path.name)
            bound = []
            for row in tree.body[1:]:
                self.assertIsInstance(row, PLAIN_TOP, f"{path.name}:{row.lineno}")
                if isinstance(row, ast.ImportFrom):
                    self.assertRegex(row.module, r"\Aweightrooms\.[a-z]+\Z", path.name)
                    self.assertTrue(all(name.asname is None and name.name != "*" for name in row.names), path.name)
                    bound += [name.name for name in row.names]
                elif isinstance(row, ast.Assign):
                    bound += [target.id for target in row.targets]
                else:
                    bound.append(row.name)
            self.assertEqual(len(bound), len(set(bound)), path.name)

    def test_no_barred_forms(self):
        for where, node in self.each_node():
            self.assertNotIsInstance(node, BARRED, where)
            if isinstance(node, ast.Constant):
                self.assertNotIsInstance(node.value, (float, complex), where)
                self.assertFalse(isinstance(node.value, str) and "%" in node.value, where)
            if isinstance(node, (ast.For, ast.While)):
                self.assertEqual(node.orelse, [], where)
            if isinstance(node, ast.Compare):
                for sign, right in zip(node.ops, node.comparators):
                    if isinstance(sign, (ast.Is, ast.IsNot)):
                        self.assertIn(getattr(right, "value", 0), (None, True, False), where)

    def test_names(self):
        barred = set(dir(builtins)) - PYTHONS_OWN
        for where, node in self.each_node():
            for name in named(node):
                if name not in UNDERSCORED:
                    self.assertRegex(name, r"\A[A-Za-z][A-Za-z0-9_]*\Z", where)
                    self.assertNotIn(name, barred, where)
            given = isinstance(node, ast.Name) and not isinstance(node.ctx, ast.Load)
            if given or isinstance(node, (ast.arg, ast.FunctionDef, ast.ClassDef)):
                self.assertNotIn(named(node)[0], PYTHONS_OWN, where)

    def test_names_of_imports_and_classes_are_given_nothing_else(self):
        for path, _, tree in files():
            drawn = [name.name for row in tree.body if isinstance(row, ast.ImportFrom) for name in row.names]
            kept = set(drawn + [row.name for row in tree.body if isinstance(row, ast.ClassDef)])
            for node in ast.walk(tree):
                given = isinstance(node, ast.Name) and not isinstance(node.ctx, ast.Load)
                if given or isinstance(node, (ast.arg, ast.FunctionDef)):
                    self.assertNotIn(named(node)[0], kept, f"{path.name}:{node.lineno}")

    def test_imports_are_used_and_come_from_the_file_that_defines_them(self):
        defined, draws = {}, {}
        for path, _, tree in files():
            rows = [row for row in tree.body if isinstance(row, (ast.FunctionDef, ast.ClassDef))]
            given = [row.targets[0].id for row in tree.body if isinstance(row, ast.Assign)]
            defined[path.stem] = [row.name for row in rows] + given
            draws[path.stem] = [row for row in tree.body if isinstance(row, ast.ImportFrom)]
            used = [node.id for node in ast.walk(tree) if isinstance(node, ast.Name)]
            for row in draws[path.stem]:
                for name in row.names:
                    self.assertIn(name.name, used, path.name)
        for stem, rows in draws.items():
            for row in rows:
                for name in row.names:
                    self.assertIn(name.name, defined[row.module.partition(".")[2]], stem)

    def test_no_two_files_draw_from_one_another(self):
        drawn = {}
        for path, _, tree in files():
            rows = [row for row in tree.body if isinstance(row, ast.ImportFrom)]
            drawn[path.stem] = {row.module.partition(".")[2] for row in rows}
        while drawn:
            free = [stem for stem, others in drawn.items() if not others & set(drawn)]
            self.assertNotEqual(free, [], sorted(drawn))
            for stem in free:
                del drawn[stem]

    def test_methods_calls_and_refusals(self):
        own = {node.name for _, node in self.each_node() if isinstance(node, (ast.FunctionDef, ast.ClassDef))}
        refusals = {node.name for where, node in self.each_node()
                    if isinstance(node, ast.ClassDef) and where.startswith("errors")}
        for where, node in self.each_node():
            if isinstance(node, ast.Call):
                if isinstance(node.func, ast.Attribute):
                    self.assertIn(node.func.attr, METHODS | own, where)
                elif node.func.id in PYTHONS_OWN:
                    keywords = {keyword.arg for keyword in node.keywords}
                    self.assertLessEqual(keywords, KEYWORDS.get(node.func.id, set()), where)
            if isinstance(node, ast.Raise) and node.exc is not None:
                self.assertIsInstance(node.exc, ast.Call, where)
                self.assertIn(node.exc.func.id, refusals, where)
            if isinstance(node, ast.BinOp) and isinstance(node.op, ast.Pow):
                self.assertIsInstance(node.right, ast.Constant, where)
            self.assertFalse(isinstance(node, ast.Starred) and isinstance(node.ctx, ast.Load), where)

    def test_values_and_methods_of_classes(self):
        nodes = list(self.each_node())
        kinds = [node for _, node in nodes if isinstance(node, ast.ClassDef)]
        methods = {row.name for kind in kinds for row in kind.body if isinstance(row, ast.FunctionDef)} - UNDERSCORED
        called = {id(node.func) for _, node in nodes if isinstance(node, ast.Call)}
        given, asked = set(), {}
        for where, node in nodes:
            if isinstance(node, ast.Attribute) and id(node) not in called:
                if isinstance(node.ctx, ast.Load):
                    asked[node.attr] = where
                else:
                    self.assertIsInstance(node.value, ast.Name, where)
                    given.add(node.attr)
        self.assertEqual(methods & given, set())
        for name, where in asked.items():
            self.assertIn(name, given, where)
        owned = {name for kind in (str, int, list, dict, set, bytes, tuple) for name in dir(kind)}
        self.assertEqual((methods | given) & owned, set())
        for kind in kinds:
            rows = [row.name for row in kind.body if isinstance(row, ast.FunctionDef)]
            self.assertEqual(len(rows), len(set(rows)), kind.name)
            self.assertLessEqual(len(kind.bases), 1, kind.name)
            for row in kind.body:
                plain = isinstance(row, ast.FunctionDef) or isinstance(row, ast.Expr) and row is kind.body[0]
                self.assertTrue(plain, kind.name)

    def test_handlers_take_own_refusals_by_name(self):
        for where, node in self.each_node():
            if isinstance(node, ast.Try):
                self.assertEqual(node.finalbody, [], where)
            if isinstance(node, ast.ExceptHandler):
                self.assertIsInstance(node.type, ast.Name, where)
                self.assertRegex(node.type.id, r"\A(No[A-Z]|TooMany|Taken|Unknown)", where)

    def test_tops_hold_plain_values_that_are_only_read(self):
        for path, _, tree in files():
            kept = {row.targets[0].id: row.value for row in tree.body if isinstance(row, ast.Assign)}
            for name, value in kept.items():
                inner = [node for node in ast.walk(value) if node is not value]
                self.assertFalse(any(isinstance(node, (ast.List, ast.Dict, ast.Call)) for node in inner), name)
            for node in ast.walk(tree):
                if isinstance(node, ast.Subscript) and not isinstance(node.ctx, ast.Load):
                    self.assertNotIn(getattr(node.value, "id", ""), kept, f"{path.name}:{node.lineno}")
                if isinstance(node, ast.Call) and isinstance(node.func, ast.Attribute):
                    self.assertNotIn(getattr(node.func.value, "id", ""), kept, f"{path.name}:{node.lineno}")

    def test_what_is_walked_on_the_spot_is_not_kept(self):
        walked = {"zip", "enumerate", "reversed", "range"}
        for where, node in self.each_node():
            if isinstance(node, (ast.Assign, ast.Return)) and isinstance(node.value, ast.Call):
                self.assertNotIn(getattr(node.value.func, "id", ""), walked, where)
                self.assertNotIn(getattr(node.value.func, "attr", ""), {"items", "keys", "values"}, where)


if __name__ == "__main__":
    unittest.main()
