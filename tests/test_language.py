"""The package keeps to its small part of Python, as far as a plain look at the files can tell."""

import ast
import pathlib
import re
import unittest

ROOT = pathlib.Path(__file__).resolve().parent.parent
PACKAGE = ROOT / "treesums"

NAMES = set(
    "len range enumerate zip min max sum abs sorted reversed int str bool list tuple dict set frozenset isinstance ord "
    "repr any all divmod Exception ValueError TypeError KeyError IndexError LookupError ZeroDivisionError "
    "ArithmeticError OverflowError RuntimeError NotImplementedError AttributeError StopIteration".split()
)
METHODS = set(
    "append clear copy count endswith extend find get index insert isalnum isalpha isdigit islower isspace isupper "
    "items join keys ljust lower lstrip partition pop remove replace reverse rfind rjust rpartition rsplit rstrip "
    "setdefault split splitlines startswith strip update upper values zfill bit_length".split()
)
WORDS = re.compile(
    r"\b(type|typing|typing_extensions|enum|Enum|IntEnum|StrEnum|Flag|IntFlag|Generic|Protocol|ABC|ABCMeta|namedtuple"
    r"|NamedTuple|TypedDict|TYPE_CHECKING|abstractmethod)\b|dataclass|overload|contextmanager"
)
UNUSED = set(
    "register mro elements open input version_info with_traceback add_note attrgetter breakpoint builtins compile "
    "copyright credits delattr dir eval exec exit gc getattr globals hasattr help id importlib license locals "
    "methodcaller os quit setattr super type vars sys".split()
)
VALUES_OF_OBJECTS = set("count index title find get join lower upper split strip copy add".split())
WALKED = ("zip", "enumerate", "reversed", "range")
FORBIDDEN = (
    ast.With, ast.Match, ast.Delete, ast.Global, ast.Nonlocal, ast.Assert, ast.Yield, ast.YieldFrom, ast.Await,
    ast.AsyncFunctionDef, ast.AsyncFor, ast.AsyncWith, ast.Set, ast.SetComp, ast.DictComp, ast.GeneratorExp,
    ast.NamedExpr, ast.Starred, ast.Div, ast.Import, ast.AnnAssign,
)


def sources():
    return {path: path.read_text(encoding="utf-8") for path in sorted(PACKAGE.rglob("*.py"))}


def parsed():
    return {path: ast.parse(text) for path, text in sources().items()}


def nodes(*kinds):
    for path, tree in parsed().items():
        for node in ast.walk(tree):
            if isinstance(node, kinds):
                yield f"{path.name}:{getattr(node, 'lineno', 0)}", node


class Files(unittest.TestCase):
    def test_nothing_else_lies_in_the_package(self):
        found = [path.name for path in PACKAGE.rglob("*") if "__pycache__" not in path.parts]
        for name in found:
            self.assertRegex(name, r"^[a-z0-9_]+\.py$")
        self.assertIn("__init__.py", found)
        self.assertIn("boughs.py", found)

    def test_size_and_signs(self):
        for path, text in sources().items():
            rows = text.split("\n")
            self.assertLessEqual(len(rows), 400, path.name)
            for number, row in enumerate(rows, start=1):
                self.assertRegex(row, r"^[ -~]{0,120}$", f"{path.name}:{number}")

    def test_words_that_stand_nowhere(self):
        for path, text in sources().items():
            self.assertIsNone(WORDS.search(text), path.name)


class Statements(unittest.TestCase):
    def test_forms_that_are_not_used(self):
        for place, node in nodes(*FORBIDDEN):
            self.fail(f"{place}: {type(node).__name__}")

    def test_function_lines(self):
        for place, node in nodes(ast.FunctionDef):
            self.assertLessEqual(node.end_lineno - node.lineno + 1, 40, place)
            self.assertEqual(node.decorator_list, [], place)

    def test_loops_and_assignments(self):
        for place, node in nodes(ast.For, ast.While):
            self.assertEqual(node.orelse, [], place)
        for place, node in nodes(ast.Assign):
            self.assertEqual(len(node.targets), 1, place)
            self.assertNotIsInstance(node.targets[0], (ast.Tuple, ast.List), place)

    def test_imports_are_the_packages_own(self):
        for place, node in nodes(ast.ImportFrom):
            self.assertEqual(node.level, 0, place)
            self.assertTrue(node.module.startswith("treesums."), place)
            file = ROOT / (node.module.replace(".", "/") + ".py")
            defined = set()
            for row in ast.parse(file.read_text(encoding="utf-8")).body:
                if isinstance(row, ast.Assign):
                    defined.add(row.targets[0].id)
                elif isinstance(row, (ast.FunctionDef, ast.ClassDef)):
                    defined.add(row.name)
            for alias in node.names:
                self.assertIn(alias.name, defined, place)
                self.assertIsNone(alias.asname, place)

    def test_plain_values(self):
        for place, node in nodes(ast.Constant):
            self.assertIn(type(node.value), (int, str, bool, type(None)), place)

    def test_is_stands_beside_none_true_and_false(self):
        for place, node in nodes(ast.Compare):
            for operator, right in zip(node.ops, node.comparators):
                if isinstance(operator, (ast.Is, ast.IsNot)):
                    self.assertIsInstance(right, ast.Constant, place)
                    self.assertIn(type(right.value), (bool, type(None)), place)


class Names(unittest.TestCase):
    def test_names_of_pythons_own(self):
        builtin = set(dir(__builtins__) if not isinstance(__builtins__, dict) else __builtins__)
        for place, node in nodes(ast.Name):
            if node.id in builtin:
                self.assertIn(node.id, NAMES, place)
                self.assertIsInstance(node.ctx, ast.Load, place)
            self.assertFalse(node.id.startswith("_"), place)
        for place, node in nodes(ast.arg):
            self.assertNotIn(node.arg, builtin, place)

    def test_names_that_are_not_used(self):
        for place, node in nodes(ast.Name, ast.Attribute, ast.FunctionDef, ast.ClassDef, ast.arg, ast.alias):
            for field in ("id", "attr", "name", "arg"):
                self.assertNotIn(getattr(node, field, None), UNUSED, place)

    def test_locals_are_not_called_like_classes_or_imports(self):
        for path, tree in parsed().items():
            taken = {row.name for row in tree.body if isinstance(row, ast.ClassDef)}
            taken |= {alias.name for row in tree.body if isinstance(row, ast.ImportFrom) for alias in row.names}
            for node in ast.walk(tree):
                if isinstance(node, ast.Name) and isinstance(node.ctx, ast.Store):
                    self.assertNotIn(node.id, taken, f"{path.name}:{node.lineno}")
                if isinstance(node, ast.arg):
                    self.assertNotIn(node.arg, taken, f"{path.name}:{node.lineno}")

    def test_values_of_objects(self):
        """None is called like something that Python's own values have."""
        own = {name for kind in (str, int, list, dict, set, bytes, tuple) for name in dir(kind)} - VALUES_OF_OBJECTS
        for place, node in nodes(ast.Attribute):
            if isinstance(node.ctx, ast.Store):
                self.assertNotIn(node.attr, own, place)

    def test_walked_on_the_spot(self):
        spots = set()
        for place, node in nodes(ast.For, ast.comprehension):
            spots.add(ast.dump(node.iter, include_attributes=True))
        for place, node in nodes(ast.Call):
            if isinstance(node.func, ast.Name) and node.func.id in WALKED:
                self.assertIn(ast.dump(node, include_attributes=True), spots, place)

    def test_files_draw_in_one_direction(self):
        drawn = {}
        for path, tree in parsed().items():
            drawn[path.stem] = {row.module.split(".")[1] for row in tree.body if isinstance(row, ast.ImportFrom)}
        left = dict(drawn)
        while left:
            free = [name for name in left if not drawn[name] & set(left)]
            self.assertTrue(free, sorted(left))
            left = {name: drawn[name] for name in left if name not in free}

    def test_methods_are_listed_or_own(self):
        own = set()
        for place, node in nodes(ast.ClassDef):
            own |= {row.name for row in node.body if isinstance(row, ast.FunctionDef)}
        kept = set()
        for place, node in nodes(ast.Attribute):
            if isinstance(node.ctx, ast.Store):
                kept.add(node.attr)
        self.assertEqual(own & kept, set())
        for place, node in nodes(ast.Call):
            if isinstance(node.func, ast.Attribute):
                self.assertIn(node.func.attr, METHODS | own, place)


if __name__ == "__main__":
    unittest.main()
