"""The rules of the language subset that are easy to overlook when a file is added or changed."""

import ast
import builtins
import pathlib
import re
import unittest

PACKAGE = pathlib.Path(__file__).resolve().parent.parent / "closestrule"
BUILTINS = set(
    "len range enumerate zip min max sum abs sorted reversed int str bool bytes list tuple dict set frozenset isinstance"
    " ord repr any all divmod iter next super property staticmethod classmethod NotImplemented Exception ValueError"
    " TypeError KeyError IndexError LookupError ZeroDivisionError ArithmeticError OverflowError RuntimeError"
    " NotImplementedError AttributeError StopIteration".split()
)
BUILTIN_METHODS = set(
    "append clear copy count endswith extend find get index insert isalnum isalpha isdigit islower isspace isupper items"
    " join keys ljust lower lstrip partition pop remove replace reverse rfind rjust rpartition rsplit rstrip setdefault"
    " split splitlines startswith strip update upper values zfill bit_length isascii".split()
)
BARRED = re.compile(
    r"\b(type|typing|typing_extensions|enum|Enum|IntEnum|StrEnum|Flag|IntFlag|Generic|Protocol|ABC|ABCMeta|namedtuple"
    r"|NamedTuple|TypedDict|TYPE_CHECKING|abstractmethod)\b|dataclass|overload|contextmanager"
)


def files():
    return [(path, path.read_text(encoding="utf-8")) for path in sorted(PACKAGE.glob("*.py"))]


def nodes(*kinds):
    """Each file's nodes of these kinds."""
    for path, text in files():
        for node in ast.walk(ast.parse(text)):
            if isinstance(node, kinds):
                yield f"{path.name}:{getattr(node, 'lineno', 0)}", node


class LanguageTest(unittest.TestCase):
    def test_the_folder(self):
        held = [path for path in PACKAGE.rglob("*") if "__pycache__" not in path.parts]
        self.assertTrue(all(re.fullmatch("[a-z0-9_]+[.]py", path.name) for path in held), held)
        self.assertIn("__init__.py", [path.name for path in held])

    def test_characters_and_sizes(self):
        for path, text in files():
            rows = text.split("\n")
            self.assertTrue(all(sign == "\n" or " " <= sign <= "~" for sign in text), path)
            self.assertLess(len(rows), 400, path)
            self.assertLessEqual(max(map(len, rows)), 120, path)
            self.assertIsNone(BARRED.search(text), path)

    def test_functions_are_short_and_plain(self):
        for place, node in nodes(ast.FunctionDef):
            self.assertLessEqual(node.end_lineno - node.lineno + 1, 40, place)
            self.assertEqual(node.args.posonlyargs, [], place)

    def test_imports(self):
        for place, node in nodes(ast.Import, ast.ImportFrom):
            self.assertIsInstance(node, ast.ImportFrom, place)
            self.assertEqual(node.level, 0, place)
            self.assertTrue(node.module.startswith("closestrule."), place)
            tree = ast.parse((PACKAGE / f"{node.module.split('.')[1]}.py").read_text(encoding="utf-8"))
            defined = {name.id for row in tree.body if isinstance(row, ast.Assign) for name in row.targets}
            defined |= {row.name for row in tree.body if isinstance(row, (ast.FunctionDef, ast.ClassDef))}
            self.assertLessEqual({name.name for name in node.names}, defined, place)

    def test_module_level(self):
        for path, text in files():
            for row in ast.parse(text).body:
                docstring = isinstance(row, ast.Expr) and isinstance(row.value, ast.Constant)
                plain = (ast.ImportFrom, ast.FunctionDef, ast.ClassDef, ast.Assign)
                self.assertTrue(docstring or isinstance(row, plain), f"{path.name}:{row.lineno}")

    def test_only_known_builtins(self):
        for place, node in nodes(ast.Name):
            if hasattr(builtins, node.id):
                self.assertIn(node.id, BUILTINS, place)
                self.assertIsInstance(node.ctx, ast.Load, place)

    def test_statements_and_expressions(self):
        for place, node in nodes(ast.Global, ast.AsyncFunctionDef, ast.Await, ast.Div):
            self.fail(f"{place}: {node}")
        for place, node in nodes(ast.Compare):
            for sign, value in zip(node.ops, node.comparators):
                if isinstance(sign, (ast.Is, ast.IsNot)):
                    self.assertIn(ast.unparse(value), ("None", "True", "False"), place)

    def test_generator_expressions_do_not_stand_beside_operators(self):
        for place, node in nodes(ast.Call):
            if isinstance(node.func, ast.Name) and node.func.id in ("any", "all", "sum", "min", "max", "sorted"):
                self.assertNotIsInstance(node.args[0], ast.GeneratorExp, place)

    def test_names(self):
        for place, node in nodes(ast.Name, ast.arg, ast.Attribute):
            name = getattr(node, "id", None) or getattr(node, "arg", None) or node.attr
            self.assertTrue(name == "__init__" or not name.startswith("_"), place)

    def test_methods_and_attributes_have_different_names(self):
        methods = {row.name for place, node in nodes(ast.ClassDef) for row in node.body if isinstance(row, ast.FunctionDef)}
        stored = [(place, node.attr) for place, node in nodes(ast.Attribute) if isinstance(node.ctx, ast.Store)]
        for place, name in stored:
            self.assertNotIn(name, methods, place)
        known = methods | {name for place, name in stored} | BUILTIN_METHODS
        for place, node in nodes(ast.Attribute):
            self.assertIn(node.attr, known | {"setter"}, place)

    def test_strings(self):
        for place, node in nodes(ast.Constant):
            self.assertNotIsInstance(node.value, float, place)
            self.assertFalse(isinstance(node.value, str) and chr(37) in node.value, place)


if __name__ == "__main__":
    unittest.main()
