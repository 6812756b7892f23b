"""The package's files keep to the small part of Python: the rules that can be told from the text."""

import ast
import pathlib
import re
import unittest

TOP = pathlib.Path(__file__).resolve().parent.parent
PACKAGE = TOP / "turnstones"

BUILT_IN = set(dir(__builtins__) if not isinstance(__builtins__, dict) else __builtins__)
ALLOWED = set(
    "len range enumerate zip min max sum abs sorted reversed int str bool list tuple dict set frozenset isinstance "
    "ord repr any all divmod Exception ValueError TypeError KeyError IndexError LookupError ZeroDivisionError "
    "ArithmeticError OverflowError RuntimeError NotImplementedError AttributeError StopIteration".split()
)
METHODS = set(
    "append clear copy count endswith extend find get index insert isalnum isalpha isdigit islower isspace isupper "
    "items join keys ljust lower lstrip partition pop remove replace reverse rfind rjust rpartition rsplit rstrip "
    "setdefault split splitlines startswith strip update upper values zfill bit_length".split()
)
WORDS = (
    r"\b(type|typing|typing_extensions|enum|Enum|IntEnum|StrEnum|Flag|IntFlag|Generic|Protocol|ABC|ABCMeta"
    r"|namedtuple|NamedTuple|TypedDict|TYPE_CHECKING|abstractmethod)\b|dataclass|overload|contextmanager"
)
UNUSED_NAMES = set(
    "register mro elements open input version_info with_traceback add_note attrgetter breakpoint builtins compile "
    "copyright credits delattr dir eval exec exit gc getattr globals hasattr help id importlib license locals "
    "methodcaller os quit setattr super type vars sys chr".split()
)
NODES_OUT = (
    ast.With, ast.AsyncWith, ast.Match, ast.Delete, ast.Global, ast.Nonlocal, ast.Assert, ast.Yield, ast.YieldFrom,
    ast.AsyncFunctionDef, ast.AsyncFor, ast.Await, ast.SetComp, ast.DictComp, ast.GeneratorExp, ast.NamedExpr,
    ast.Starred, ast.Div, ast.MatMult, ast.Pow, ast.AnnAssign, ast.Import, ast.Set,
)
METHODS_WITH_UNDERSCORES = {"__init__"}
OWN_OF_PYTHON = set().union(*(dir(kind) for kind in (str, int, list, dict, set, bytes, tuple)))


def files():
    return sorted(PACKAGE.rglob("*.py"))


def trees():
    return [(path, ast.parse(path.read_text(encoding="ascii"))) for path in files()]


def nodes(kind):
    return [(path, node) for path, tree in trees() for node in ast.walk(tree) if isinstance(node, kind)]


def plain(node):
    """Whether it is a plain value at a file's top."""
    if isinstance(node, ast.Constant):
        return node.value is None or isinstance(node.value, (int, str))
    if isinstance(node, ast.Tuple):
        return all(plain(part) for part in node.elts)
    return False


class Language(unittest.TestCase):
    def test_nothing_else_lies_in_the_package(self):
        names = {path.name for path in PACKAGE.rglob("*") if "__pycache__" not in path.parts}
        self.assertEqual(names, {path.name for path in files()})
        self.assertIn("__init__.py", names)
        for name in names - {"__init__.py"}:
            self.assertRegex(name, r"^[a-z][a-z0-9_]*\.py$")
            self.assertNotIn(name[:-3], BUILT_IN | OWN_OF_PYTHON)

    def test_signs_and_sizes(self):
        for path in files():
            text = path.read_text(encoding="ascii")
            self.assertRegex(text, r"\A[ -~\n]*\n\Z", path)
            rows = text.splitlines()
            self.assertLessEqual(len(rows), 400, path)
            self.assertLessEqual(max(map(len, rows)), 120, path)
            self.assertIsNone(re.search(WORDS, text), path)
        for path, node in nodes(ast.FunctionDef):
            self.assertLessEqual(node.end_lineno - node.lineno + 1, 40, (path, node.name))

    def test_the_top_of_a_file(self):
        for path, tree in trees():
            self.assertIsNotNone(ast.get_docstring(tree), path)
            bound = []
            for node in tree.body[1:]:
                if isinstance(node, ast.Assign):
                    self.assertTrue(plain(node.value), (path, node.lineno))
                    bound.append(node.targets[0].id)
                elif isinstance(node, ast.ImportFrom):
                    bound += [name.name for name in node.names]
                else:
                    self.assertIsInstance(node, (ast.FunctionDef, ast.ClassDef), (path, node.lineno))
                    bound.append(node.name)
            self.assertEqual(len(bound), len(set(bound)), path)

    def test_imports_are_the_package_s_own_and_go_one_way(self):
        drawn = {}
        for path, node in nodes(ast.ImportFrom):
            self.assertEqual(node.level, 0)
            self.assertRegex(node.module, r"^turnstones\.[a-z]+$")
            source = ast.parse((PACKAGE / (node.module.split(".")[1] + ".py")).read_text())
            defined = {part.name for part in source.body if hasattr(part, "name")}
            defined |= {part.targets[0].id for part in source.body if isinstance(part, ast.Assign)}
            for name in node.names:
                self.assertIsNone(name.asname)
                self.assertIn(name.name, defined)
            drawn.setdefault(path.stem, set()).add(node.module.split(".")[1])
        left = {path.stem for path in files()}
        while left:
            free = {name for name in left if not drawn.get(name, set()) & left}
            self.assertTrue(free, f"these draw from one another: {left}")
            left -= free

    def test_every_import_is_used(self):
        for path, tree in trees():
            used = {node.id for node in ast.walk(tree) if isinstance(node, ast.Name)}
            for node in tree.body:
                if isinstance(node, ast.ImportFrom):
                    self.assertEqual({name.name for name in node.names} - used, set(), path)

    def test_statements_and_expressions(self):
        for path, node in nodes(NODES_OUT):
            self.fail(f"{path}:{node.lineno}: {node}")
        for path, node in nodes((ast.For, ast.While)):
            self.assertEqual(node.orelse, [], (path, node.lineno))
        for path, node in nodes(ast.Assign):
            self.assertEqual(len(node.targets), 1, (path, node.lineno))
        for path, node in nodes(ast.Constant):
            self.assertIsInstance(node.value, (int, str, bool, type(None)), (path, node.lineno))
        for path, node in nodes(ast.FormattedValue):
            self.assertIsInstance(node.value, ast.Name, (path, node.lineno))
        for path, node in nodes(ast.ListComp):
            self.assertEqual(len(node.generators), 1, (path, node.lineno))

    def test_functions_and_classes(self):
        for path, node in nodes(ast.FunctionDef):
            given = node.args
            self.assertEqual((given.vararg, given.kwarg, given.kwonlyargs, given.posonlyargs), (None, None, [], []))
            self.assertEqual(node.decorator_list, [])
            self.assertFalse(node.name.startswith("_") and node.name not in METHODS_WITH_UNDERSCORES, node.name)
        methods = set()
        values = set()
        for path, node in nodes(ast.ClassDef):
            self.assertEqual(node.decorator_list, [])
            self.assertLessEqual(len(node.bases), 1)
            for part in node.body[1:]:
                self.assertIsInstance(part, ast.FunctionDef, (path, part.lineno))
                methods.add(part.name)
            for part in ast.walk(node):
                if isinstance(part, ast.Attribute) and isinstance(part.ctx, ast.Store):
                    values.add(part.attr)
        self.assertEqual(methods & values, set())
        self.assertEqual((methods | values) & OWN_OF_PYTHON, {"__init__"})

    def test_names(self):
        for path, node in nodes(ast.Name):
            self.assertNotIn(node.id, UNUSED_NAMES, (path, node.lineno))
            self.assertRegex(node.id, r"^[A-Za-z][A-Za-z0-9_]*$")
            if node.id in BUILT_IN:
                self.assertIn(node.id, ALLOWED, (path, node.lineno))
                self.assertIsInstance(node.ctx, ast.Load, (path, node.lineno))
        for path, node in nodes(ast.arg):
            self.assertNotIn(node.arg, BUILT_IN, path)

    def test_locals_are_not_called_like_classes_or_imports(self):
        for path, tree in trees():
            taken = {node.name for node in tree.body if isinstance(node, ast.ClassDef)}
            for node in tree.body:
                if isinstance(node, ast.ImportFrom):
                    taken |= {name.name for name in node.names}
            for node in ast.walk(tree):
                if isinstance(node, ast.arg):
                    self.assertNotIn(node.arg, taken, path)
                if isinstance(node, ast.Name) and isinstance(node.ctx, ast.Store):
                    self.assertNotIn(node.id, taken, path)

    def test_methods_of_python_s_own_values(self):
        own = {part.name for _, node in nodes(ast.ClassDef) for part in node.body if isinstance(part, ast.FunctionDef)}
        for path, node in nodes(ast.Call):
            if isinstance(node.func, ast.Attribute):
                self.assertIn(node.func.attr, METHODS | own, (path, node.lineno))


if __name__ == "__main__":
    unittest.main()
