"""Rules of LANGUAGE.md that can be read off the files of the package."""

import ast
import builtins
import re
import unittest
from pathlib import Path

PACKAGE = Path(__file__).resolve().parent.parent / "spindleway"
FILES = sorted(PACKAGE.glob("*.py"))
TREES = {path.stem: ast.parse(path.read_text(encoding="utf-8")) for path in FILES}

LIBRARY = {
    "math": {"gcd", "lcm", "isqrt", "comb", "perm", "factorial"},
    "heapq": {"heappush", "heappop", "heapify", "heapreplace", "heappushpop"},
    "itertools": {"product", "combinations", "permutations"},
}
BUILTINS = set(
    "len range enumerate zip min max sum abs sorted reversed int str bool list tuple dict set isinstance ord repr any "
    "all divmod type super Exception ValueError TypeError KeyError IndexError LookupError ZeroDivisionError "
    "ArithmeticError OverflowError RuntimeError NotImplementedError AttributeError NotImplemented".split()
)
METHODS = set(
    "add discard append clear copy count endswith extend find get index insert isalnum isalpha isdigit islower isspace isupper "
    "items join keys ljust lower lstrip partition pop remove replace reverse rfind rjust rpartition rsplit rstrip "
    "setdefault split splitlines startswith strip update upper values zfill bit_length title capitalize swapcase casefold center "
    "expandtabs removeprefix removesuffix rindex isascii isdecimal isnumeric istitle isidentifier isprintable".split()
)
UNDERSCORED = set(
    "__init__ __eq__ __repr__ __str__ __len__ __bool__ __lt__ __le__ __gt__ __ge__ __ne__".split()
)
BARRED_NODES = (
    ast.AsyncFunctionDef, ast.AsyncFor, ast.AsyncWith, ast.Await, ast.Global, ast.GeneratorExp, ast.Div, ast.MatMult,
    ast.AnnAssign, ast.Import, ast.Yield, ast.YieldFrom, ast.Lambda, ast.NamedExpr,
)
BARRED_WORDS = re.compile(
    r"\b(register|mro|elements|open|input|law|typing|enum|Enum|Flag|Protocol|Generic|ABC|ABCMeta)\b"
    r"|\b(namedtuple|abstractmethod)\b"
    r"|dataclass|overload|contextmanager"
)


def functions(tree):
    return [node for node in ast.walk(tree) if isinstance(node, ast.FunctionDef)]


def bound_names(tree):
    """Names of parameters, variables, functions and classes."""
    for node in ast.walk(tree):
        if isinstance(node, ast.arg):
            yield node.arg
        elif isinstance(node, ast.Name) and isinstance(node.ctx, ast.Store):
            yield node.id
        elif isinstance(node, (ast.FunctionDef, ast.ClassDef)):
            yield node.name
        elif isinstance(node, ast.ExceptHandler) and node.name:
            yield node.name


def inner_names(tree):
    """Names of parameters and of variables in functions."""
    for function in functions(tree):
        for node in ast.walk(function):
            if isinstance(node, ast.arg):
                yield node.arg
            elif isinstance(node, ast.Name) and isinstance(node.ctx, ast.Store):
                yield node.id


def imports(tree):
    return [node for node in ast.walk(tree) if isinstance(node, ast.ImportFrom)]


def is_plainly_string(value):
    """Whether it is a string, an f-string, str(..), repr(..), or the join of a literal."""
    if isinstance(value, ast.Call) and isinstance(value.func, ast.Attribute):
        return value.func.attr == "join" and isinstance(value.func.value, ast.Constant)
    if isinstance(value, ast.Call):
        return isinstance(value.func, ast.Name) and value.func.id in ("str", "repr")
    return isinstance(value, ast.JoinedStr) or (isinstance(value, ast.Constant) and isinstance(value.value, str))


class LanguageTest(unittest.TestCase):
    def test_files(self):
        self.assertLessEqual(len(FILES), 100)
        others = [path.name for path in PACKAGE.iterdir() if path.suffix != ".py" and path.name != "__pycache__"]
        self.assertEqual(others, [])
        for path in FILES:
            self.assertRegex(path.name, r"^[a-z0-9_]+\.py$")
            text = path.read_text(encoding="utf-8")
            self.assertRegex(text, r"^[ -~\n]*\Z", path.name)
            lines = text.splitlines()
            self.assertLessEqual(len(lines), 399, path.name)
            self.assertLessEqual(max([len(line) for line in lines], default=0), 120, path.name)

    def test_functions_are_short(self):
        for name, tree in TREES.items():
            for function in functions(tree):
                self.assertLessEqual(function.end_lineno - function.lineno + 1, 40, f"{name}.{function.name}")

    def test_imports(self):
        for name, tree in TREES.items():
            for node in imports(tree):
                self.assertEqual(node.level, 0)
                self.assertTrue(all(alias.asname is None for alias in node.names))
                names = {alias.name for alias in node.names}
                if node.module in LIBRARY:
                    self.assertLessEqual(names, LIBRARY[node.module])
                    continue
                package, _, file = node.module.partition(".")
                self.assertEqual(package, "spindleway", name)
                defined = {each.name for each in TREES[file].body if isinstance(each, (ast.FunctionDef, ast.ClassDef))}
                for each in TREES[file].body:
                    if isinstance(each, ast.Assign):
                        defined |= {target.id for target in each.targets}
                self.assertLessEqual(names, defined, name)

    def test_imported_names_are_used(self):
        for name, tree in TREES.items():
            used = {node.id for node in ast.walk(tree) if isinstance(node, ast.Name)}
            for node in imports(tree):
                for alias in node.names:
                    self.assertIn(alias.name, used, name)

    def test_no_two_files_import_one_another(self):
        over = {
            name: {node.module.partition(".")[2] for node in imports(tree) if node.module.startswith("spindleway.")}
            for name, tree in TREES.items()
        }
        while over:
            free = [name for name, needed in over.items() if not needed & set(over)]
            self.assertTrue(free, sorted(over))
            for name in free:
                del over[name]

    def test_statements(self):
        for name, tree in TREES.items():
            for node in ast.walk(tree):
                self.assertNotIsInstance(node, BARRED_NODES, f"{name}:{getattr(node, 'lineno', '')}")
                if isinstance(node, ast.Constant):
                    self.assertNotIsInstance(node.value, (float, complex))
                if isinstance(node, (ast.FunctionDef, ast.ClassDef)):
                    decorators = {decorator.id for decorator in node.decorator_list}
                    self.assertLessEqual(decorators, {"staticmethod", "classmethod", "property"})
                if isinstance(node, ast.ExceptHandler):
                    self.assertIsNotNone(node.type)

    def test_module_level(self):
        for name, tree in TREES.items():
            for at, node in enumerate(tree.body):
                docstring = at == 0 and isinstance(node, ast.Expr) and isinstance(node.value, ast.Constant)
                plain = isinstance(node, (ast.ImportFrom, ast.FunctionDef, ast.ClassDef, ast.Assign))
                self.assertTrue(docstring or plain, f"{name}:{node.lineno}")

    def test_builtins(self):
        for name, tree in TREES.items():
            used = {node.id for node in ast.walk(tree) if isinstance(node, ast.Name)}
            decorators = {"staticmethod", "classmethod", "property"}
            self.assertLessEqual((used & set(dir(builtins))) - decorators, BUILTINS, name)

    def test_methods(self):
        own = {function.name for tree in TREES.values() for function in functions(tree)}
        for name, tree in TREES.items():
            for node in ast.walk(tree):
                if isinstance(node, ast.Call) and isinstance(node.func, ast.Attribute):
                    self.assertIn(node.func.attr, METHODS | own, f"{name}:{node.lineno}")

    def test_names(self):
        for name, tree in TREES.items():
            for bound in bound_names(tree):
                self.assertNotIn(bound, dir(builtins), name)
                self.assertIsNone(BARRED_WORDS.search(bound), name)
                if bound.startswith("__"):
                    self.assertIn(bound, UNDERSCORED, name)
            top = {alias.name for node in imports(tree) for alias in node.names}
            top |= {node.name for node in tree.body if isinstance(node, (ast.ClassDef, ast.FunctionDef))}
            # The interface names a parameter of led_up as the function beside it, which led_up does not call.
            told = {"well"} if name == "wells" else set()
            self.assertEqual(top & set(inner_names(tree)), told, name)

    def test_texts_are_plainly_strings(self):
        for name, tree in TREES.items():
            for function in functions(tree):
                if function.name in ("__str__", "__repr__"):
                    self.assertIsInstance(function.body[-1], ast.Return)
                    for node in ast.walk(function):
                        if isinstance(node, ast.Return):
                            self.assertTrue(is_plainly_string(node.value), f"{name}:{node.lineno}")

    def test_strings(self):
        for name, tree in TREES.items():
            for node in ast.walk(tree):
                if isinstance(node, ast.Constant) and isinstance(node.value, str):
                    self.assertNotIn("%", node.value, name)


if __name__ == "__main__":
    unittest.main()
