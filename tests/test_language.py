"""The form of the code: those rules of the language that a program can look for."""

import ast
import pathlib
import unittest
import warnings

PACKAGE = pathlib.Path(__file__).resolve().parent.parent / "classprimes"
FILES = sorted(PACKAGE.rglob("*.py"))
# L17: words that stand in no file but in comments and docstrings.
WORDS = set(
    "type typing typing_extensions enum Enum IntEnum StrEnum Flag IntFlag Generic Protocol ABC ABCMeta namedtuple "
    "NamedTuple TypedDict TYPE_CHECKING abstractmethod mro elements open input law register".split())
LIBRARY = {"math": {"gcd", "lcm", "isqrt", "comb", "perm", "factorial"}}
BUILTINS = set(
    "len range enumerate zip min max sum abs sorted reversed int str bool bytes list tuple dict set isinstance ord "
    "repr any all divmod ValueError super".split())
METHODS = set(
    "append clear copy count endswith extend find get index insert isalnum isalpha isdigit islower isspace isupper "
    "items join keys ljust lower lstrip partition pop remove replace reverse rfind rjust rpartition rsplit rstrip "
    "setdefault split splitlines startswith strip update upper values zfill bit_length __init__".split())
BARRED = (
    ast.AsyncFunctionDef, ast.AsyncFor, ast.AsyncWith, ast.Await, ast.Global, ast.Div, ast.MatMult, ast.Import)


class LanguageTest(unittest.TestCase):
    def nodes(self):
        for path in FILES:
            with warnings.catch_warnings():
                warnings.simplefilter("error")
                tree = ast.parse(path.read_text())
                compile(tree, str(path), "exec")
            for node in ast.walk(tree):
                yield path, tree, node

    def test_folder(self):
        self.assertIn(PACKAGE / "__init__.py", FILES)
        for path in PACKAGE.rglob("*"):
            if "__pycache__" not in path.parts:
                self.assertEqual(path.suffix, ".py")
                self.assertRegex(path.name, r"\A[a-z_][a-z0-9_]*\.py\Z")

    def test_sizes_and_characters(self):
        for path in FILES:
            text = path.read_text()
            self.assertRegex(text, r"\A[\n -~]*\Z")
            lines = text.splitlines()
            self.assertLessEqual(len(lines), 399, path)
            self.assertLessEqual(max(len(line) for line in lines), 120, path)
        for path, _, node in self.nodes():
            if isinstance(node, ast.FunctionDef):
                self.assertLessEqual(node.end_lineno - node.lineno + 1, 40, (path, node.name))
                self.assertEqual(node.decorator_list, [])

    def test_imports(self):
        modules = {f"classprimes.{path.stem}" for path in FILES}
        for path, tree, node in self.nodes():
            if isinstance(node, ast.ImportFrom):
                self.assertIn(node, tree.body)
                self.assertEqual(node.level, 0)
                names = {alias.name for alias in node.names}
                self.assertEqual([alias.asname for alias in node.names], [None] * len(names))
                self.assertTrue(node.module in modules or names <= LIBRARY.get(node.module, set()), (path, names))

    def test_module_level(self):
        for path in FILES:
            for node in ast.parse(path.read_text()).body:
                plain = isinstance(node, ast.Expr) and isinstance(node.value, ast.Constant)
                self.assertTrue(plain or isinstance(
                    node, (ast.ImportFrom, ast.FunctionDef, ast.ClassDef, ast.Assign)), (path, node.lineno))

    def test_what_does_not_stand(self):
        for path, _, node in self.nodes():
            self.assertNotIsInstance(node, BARRED, path)
            if isinstance(node, ast.Constant):
                self.assertNotIsInstance(node.value, (float, complex))
            if isinstance(node, ast.BinOp) and isinstance(node.op, ast.Pow):
                self.assertIsInstance(node.right, ast.Constant, (path, node.lineno))
                self.assertTrue(0 <= node.right.value <= 64, (path, node.lineno))
            if isinstance(node, (ast.Name, ast.arg, ast.Attribute, ast.FunctionDef, ast.ClassDef)):
                name = [getattr(node, field) for field in ("id", "arg", "attr", "name") if hasattr(node, field)][0]
                self.assertNotIn(name, WORDS, (path, node.lineno))

    def test_no_circle_of_imports(self):
        waiting = {
            f"classprimes.{path.stem}": {
                node.module for node in ast.parse(path.read_text()).body if isinstance(node, ast.ImportFrom)}
            for path in FILES}
        while waiting:
            ready = [name for name, needed in waiting.items() if not needed & set(waiting)]
            self.assertNotEqual(ready, [], waiting)
            waiting = {name: needed for name, needed in waiting.items() if name not in ready}

    def test_imported_names_are_defined_there_and_keep_their_meaning(self):
        for path, tree, node in self.nodes():
            if isinstance(node, ast.Module):
                imported = [each for each in node.body if isinstance(each, ast.ImportFrom)]
                bound = [alias.name for each in imported for alias in each.names]
                self.assertEqual(len(bound), len(set(bound)), path)
                for each in imported:
                    if each.module not in LIBRARY:
                        source = ast.parse((PACKAGE / f"{each.module.partition('.')[2]}.py").read_text())
                        defined = {part.name for part in source.body if hasattr(part, "name")}
                        defined |= {part.targets[0].id for part in source.body if isinstance(part, ast.Assign)}
                        self.assertLessEqual({alias.name for alias in each.names}, defined)
                used = {each.id for each in ast.walk(tree) if isinstance(each, ast.Name) and each.id in bound}
                self.assertEqual(used, set(bound), path)
                for each in ast.walk(tree):
                    if isinstance(each, ast.arg):
                        self.assertNotIn(each.arg, bound, path)
                    if isinstance(each, ast.Name) and isinstance(each.ctx, ast.Store):
                        self.assertNotIn(each.id, bound, (path, each.lineno))

    def test_names(self):
        known = {node.name for _, _, node in self.nodes() if isinstance(node, (ast.FunctionDef, ast.ClassDef))}
        known |= {name for names in LIBRARY.values() for name in names} | BUILTINS
        # A function of a table is called by one of these names.
        known |= {"check", "answer"}
        methods = METHODS | {
            method.name for _, _, node in self.nodes() if isinstance(node, ast.ClassDef) for method in node.body
            if isinstance(method, ast.FunctionDef)}
        for path, _, node in self.nodes():
            if isinstance(node, ast.Call) and isinstance(node.func, ast.Name):
                self.assertIn(node.func.id, known, (path, node.lineno))
            if isinstance(node, ast.Call) and isinstance(node.func, ast.Attribute):
                self.assertIn(node.func.attr, methods, (path, node.lineno))
            if isinstance(node, ast.arg):
                self.assertNotIn(node.arg, BUILTINS, path)
            if isinstance(node, ast.Name) and isinstance(node.ctx, ast.Store):
                self.assertNotIn(node.id, BUILTINS, (path, node.lineno))
