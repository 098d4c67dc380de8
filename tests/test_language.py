"""Rules of LANGUAGE.md that a test can see at once, for every file of the package."""

import ast
import builtins
import pathlib
import re
import unittest

PACKAGE = pathlib.Path(__file__).resolve().parent.parent / "fewsumlots"

BARRED_WORDS = re.compile(
    r"\b(type|typing|typing_extensions|enum|Enum|IntEnum|StrEnum|Flag|IntFlag|Generic|Protocol|ABC|ABCMeta"
    r"|namedtuple|NamedTuple|TypedDict|TYPE_CHECKING|abstractmethod)\b|dataclass|overload|contextmanager"
)

BUILTINS = {
    "len", "range", "enumerate", "zip", "min", "max", "sum", "abs", "sorted", "reversed", "int", "str", "bool",
    "bytes", "list", "tuple", "dict", "set", "frozenset", "isinstance", "ord", "repr", "any", "all", "divmod",
    "Exception", "ValueError", "TypeError", "KeyError", "IndexError", "LookupError", "ZeroDivisionError",
    "ArithmeticError", "OverflowError", "RuntimeError", "NotImplementedError", "AttributeError",
    "StopIteration", "NotImplemented",
}


def package_files():
    return sorted(path for path in PACKAGE.rglob("*") if path.is_file() and "__pycache__" not in path.parts)


def trees():
    return [(path, ast.parse(path.read_text(encoding="ascii"))) for path in package_files()]


def bound_names(tree):
    """All names that the file binds, but for methods, which may have the name of a builtin."""
    classes = [node for node in ast.walk(tree) if isinstance(node, ast.ClassDef)]
    methods = [node for some in classes for node in some.body]
    for node in ast.walk(tree):
        if node in methods:
            continue
        if isinstance(node, ast.Name) and isinstance(node.ctx, ast.Store):
            yield node.id
        elif isinstance(node, (ast.FunctionDef, ast.ClassDef)):
            yield node.name
        elif isinstance(node, ast.arg):
            yield node.arg
        elif isinstance(node, ast.alias):
            yield node.asname or node.name
        elif isinstance(node, ast.ExceptHandler) and node.name:
            yield node.name


class Language(unittest.TestCase):
    def test_only_python_files_with_plain_names(self):
        self.assertIn(PACKAGE / "__init__.py", package_files())
        for path in package_files():
            self.assertRegex(path.name, r"^[a-z0-9_]+\.py$")

    def test_lines_and_characters(self):
        for path in package_files():
            lines = path.read_text(encoding="ascii").split("\n")
            self.assertLessEqual(len(lines), 400, path)
            for at, line in enumerate(lines, start=1):
                with self.subTest(path=path.name, line=at):
                    self.assertLessEqual(len(line), 120)
                    self.assertRegex(line, r"^[ -~]*$")
                    self.assertNotRegex(line, BARRED_WORDS)

    def test_functions_are_small(self):
        for path, tree in trees():
            for node in ast.walk(tree):
                if isinstance(node, ast.FunctionDef):
                    with self.subTest(path=path.name, name=node.name):
                        self.assertLessEqual(node.end_lineno - node.lineno + 1, 40)

    def test_imports_are_of_the_package_only(self):
        for path, tree in trees():
            for node in ast.walk(tree):
                self.assertNotIsInstance(node, ast.Import, path)
                if isinstance(node, ast.ImportFrom):
                    with self.subTest(path=path.name, line=node.lineno):
                        self.assertIn(node, tree.body)
                        self.assertEqual(node.level, 0)
                        self.assertRegex(node.module, r"^fewsumlots\.[a-z0-9_]+$")
                        self.assertNotIn("*", [alias.name for alias in node.names])

    def test_imports_name_the_very_file_and_go_in_no_circle(self):
        defined = {}
        wanted = {}
        for path, tree in trees():
            names = [node.name for node in tree.body if isinstance(node, (ast.FunctionDef, ast.ClassDef))]
            values = [target.id for node in tree.body if isinstance(node, ast.Assign) for target in node.targets]
            self.assertEqual(len(set(names + values)), len(names + values), path)
            defined[f"fewsumlots.{path.stem}"] = names + values
            wanted[f"fewsumlots.{path.stem}"] = [node for node in tree.body if isinstance(node, ast.ImportFrom)]
        for nodes in wanted.values():
            for node in nodes:
                for alias in node.names:
                    with self.subTest(module=node.module, name=alias.name):
                        self.assertIn(alias.name, defined[node.module])
        left = {name: {node.module for node in nodes} for name, nodes in wanted.items()}
        while left:
            ready = [name for name in left if not left[name] & set(left)]
            self.assertTrue(ready, sorted(left))
            left = {name: left[name] for name in left if name not in ready}

    def test_locals_have_no_name_of_an_import_or_class(self):
        for path, tree in trees():
            imported = {alias.name for node in tree.body if isinstance(node, ast.ImportFrom) for alias in node.names}
            imported |= {node.name for node in tree.body if isinstance(node, ast.ClassDef)}
            for function in ast.walk(tree):
                if isinstance(function, ast.FunctionDef):
                    with self.subTest(path=path.name, name=function.name):
                        inner = [name for part in function.body + [function.args] for name in bound_names(part)]
                        self.assertFalse(imported & set(inner))

    def test_names(self):
        for path, tree in trees():
            known = set(bound_names(tree))
            for name in known:
                with self.subTest(path=path.name, name=name):
                    self.assertNotIn(name, dir(builtins))
                    if not re.fullmatch(r"__[a-z]+__", name):
                        self.assertFalse(name.startswith("_"))
            for node in ast.walk(tree):
                if isinstance(node, ast.Name):
                    with self.subTest(path=path.name, line=node.lineno, name=node.id):
                        self.assertIn(node.id, known | BUILTINS)

    def test_no_floats_and_no_division(self):
        for path, tree in trees():
            for node in ast.walk(tree):
                self.assertNotIsInstance(node, ast.Div, path)
                if isinstance(node, ast.Constant):
                    self.assertNotIsInstance(node.value, (float, complex), path)


if __name__ == "__main__":
    unittest.main()
