"""The package's files against the rules of the language that a test can see.

The rules are many more than these; this holds those that slip in most easily.
"""

import ast
import builtins
import pathlib
import re
import unittest
import warnings

PACKAGE = pathlib.Path(__file__).resolve().parent.parent / "leavechain"
FILES = sorted(path for path in PACKAGE.rglob("*") if "__pycache__" not in path.parts)

USED_BUILTINS = set(
    "len range enumerate zip min max sum abs sorted reversed int str bool bytes list tuple dict "
    "set frozenset isinstance ord repr any all divmod pow getattr hasattr setattr map iter next "
    "super property staticmethod classmethod Exception ValueError TypeError KeyError IndexError "
    "LookupError ZeroDivisionError ArithmeticError OverflowError RuntimeError NotImplementedError "
    "AttributeError StopIteration NotImplemented type True False None".split()
)
METHODS = set(
    "append clear copy count endswith extend find get index insert isalnum isalpha isdigit "
    "islower isspace isupper items join keys ljust lower lstrip partition pop remove replace "
    "reverse rfind rjust rpartition rsplit rstrip setdefault split splitlines startswith strip "
    "update upper values zfill bit_length add discard sort format __init__ appendleft popleft "
    "extendleft".split()
)
NOWHERE = set("register mro elements open input law version_info with_traceback add_note".split())
BARRED_BEGINNINGS = (
    "_wall", "_pe_", "_dcw_", "_enum_", "_cm_", "_twin_re_", "_lay_", "_law_", "_stub_", "_sre",
    "_cold", "_tuplegetter", "_outside", "_record", "_written_out", "_member_names",
)
LIBRARY = ("heapq", "math", "itertools", "collections", "__future__")
PLAIN = (ast.Constant, ast.UnaryOp, ast.List, ast.Tuple, ast.Dict)
NOT_ALLOWED = (
    ast.AsyncFunctionDef, ast.AsyncFor, ast.AsyncWith, ast.Await, ast.Div, ast.MatMult, ast.TryStar,
)


def trees():
    """Each file's place with its text and its tree."""
    for path in FILES:
        text = path.read_text(encoding="ascii")
        yield path.relative_to(PACKAGE).as_posix(), text, ast.parse(text)


def bound_names(tree):
    """All names that a file gives to something."""
    for node in ast.walk(tree):
        if isinstance(node, ast.Name) and not isinstance(node.ctx, ast.Load):
            yield node.id
        elif isinstance(node, ast.arg):
            yield node.arg
        elif isinstance(node, ast.alias):
            yield node.name
        elif isinstance(node, ast.ClassDef):
            yield node.name


def functions(tree):
    """All functions of a file, those in classes and functions included."""
    return [node for node in ast.walk(tree) if isinstance(node, ast.FunctionDef)]


class LanguageTest(unittest.TestCase):
    def test_files(self):
        self.assertGreater(len(FILES), 1)
        for path in FILES:
            with self.subTest(path=path.name):
                self.assertRegex(path.name, r"\A[a-z_][a-z0-9_]*\.py\Z")
                self.assertTrue(path.is_file())

    def test_size_and_characters(self):
        for place, text, tree in trees():
            with self.subTest(place=place):
                self.assertLessEqual(text.count("\n"), 399)
                self.assertLessEqual(max(len(line) for line in text.split("\n")), 120)
                self.assertIsNone(re.search(r"[^ -~\n]", text))
                for node in functions(tree):
                    self.assertLessEqual(node.end_lineno - node.lineno + 1, 40, node.name)

    def test_no_warnings(self):
        for place, text, _ in trees():
            with self.subTest(place=place), warnings.catch_warnings():
                warnings.simplefilter("error")
                compile(text, place, "exec")

    def test_whole_modules_are_not_imported(self):
        for place, _, tree in trees():
            names = [
                alias.name for node in ast.walk(tree)
                if isinstance(node, ast.Import) for alias in node.names
            ]
            with self.subTest(place=place):
                self.assertEqual(names, ["sys"] if place == "__main__.py" else [])

    def test_imports(self):
        defined = {}
        imported = {}
        for place, _, tree in trees():
            module = "leavechain." + place[:-3]
            defined[module] = {
                target.id for node in tree.body if isinstance(node, ast.Assign)
                for target in node.targets
            } | {
                node.name for node in tree.body if isinstance(node, (ast.FunctionDef, ast.ClassDef))
            }
            imported[module] = [
                (node.module, alias.name) for node in ast.walk(tree)
                if isinstance(node, ast.ImportFrom) and node.module not in LIBRARY
                for alias in node.names
            ]
        for module, pairs in imported.items():
            for source, name in pairs:
                with self.subTest(module=module, name=name):
                    self.assertIn(name, defined[source])
                    self.assertNotIn(module, self.reached(source, imported))

    def reached(self, module, imported):
        """The module and all that it imports, straight or through others."""
        found, left = set(), [module]
        while left:
            at = left.pop()
            if at not in found:
                found.add(at)
                left.extend(source for source, _ in imported[at])
        return found

    def test_no_other_statements_and_values(self):
        for place, _, tree in trees():
            for node in ast.walk(tree):
                with self.subTest(place=place, line=getattr(node, "lineno", 0)):
                    self.assertNotIsInstance(node, NOT_ALLOWED)
                    if isinstance(node, ast.Constant):
                        self.assertNotIsInstance(node.value, (float, complex))
                        if isinstance(node.value, str):
                            self.assertNotIn("%", node.value)

    def test_module_level(self):
        for place, _, tree in trees():
            for node in tree.body:
                with self.subTest(place=place, line=node.lineno):
                    if isinstance(node, ast.Assign):
                        self.assertEqual(len(node.targets), 1)
                        self.assertIsInstance(node.value, PLAIN)
                    elif isinstance(node, ast.Expr):
                        self.assertIsInstance(node.value, ast.Constant)
                    else:
                        self.assertIsInstance(
                            node, (ast.ImportFrom, ast.FunctionDef, ast.ClassDef),
                        )

    def test_names(self):
        for place, _, tree in trees():
            names = list(bound_names(tree)) + [node.name for node in functions(tree)]
            for name in names:
                with self.subTest(place=place, name=name):
                    self.assertNotIn(name, NOWHERE)
                    self.assertFalse(name.startswith(BARRED_BEGINNINGS))
                    if not name.startswith("__"):
                        self.assertFalse(hasattr(builtins, name))

    def test_builtins_and_methods(self):
        own = {node.name for _, _, tree in trees() for node in functions(tree)}
        for place, _, tree in trees():
            for node in ast.walk(tree):
                with self.subTest(place=place, line=getattr(node, "lineno", 0)):
                    if isinstance(node, ast.Name) and hasattr(builtins, node.id):
                        self.assertIn(node.id, USED_BUILTINS)
                    if isinstance(node, ast.Call) and isinstance(node.func, ast.Attribute):
                        self.assertIn(node.func.attr, METHODS | own)

    def test_no_parameter_or_local_is_called_like_an_import(self):
        for place, _, tree in trees():
            imports = {
                alias.name for node in tree.body if isinstance(node, ast.ImportFrom)
                for alias in node.names
            }
            bound = [
                node.id for node in ast.walk(tree)
                if isinstance(node, ast.Name) and isinstance(node.ctx, ast.Store)
            ] + [node.arg for node in ast.walk(tree) if isinstance(node, ast.arg)]
            with self.subTest(place=place):
                self.assertEqual(imports & set(bound), set())


if __name__ == "__main__":
    unittest.main()
