"""Rules of the language that a test can see: sizes, characters, imports, and many of the names and signs in use."""

import ast
import builtins
import io
import re
import tokenize
import unittest
from pathlib import Path

PACKAGE = Path(__file__).resolve().parent.parent / "manymakers"
LIBRARY = {"heapq", "math", "itertools"}
BUILTINS = set(
    "len range enumerate zip min max sum abs sorted reversed int str bool bytes list tuple dict set frozenset "
    "isinstance ord repr any all divmod Exception ValueError TypeError KeyError IndexError LookupError ZeroDivisionError "
    "ArithmeticError OverflowError RuntimeError NotImplementedError AttributeError StopIteration NotImplemented "
    "property staticmethod classmethod super".split()
)
METHODS = set(
    "append clear copy count endswith extend find get index insert isalnum isalpha isdigit islower isspace isupper "
    "items join keys ljust lower lstrip partition pop remove replace reverse rfind rjust rpartition rsplit rstrip setdefault "
    "split splitlines startswith strip update upper values zfill bit_length".split()
)
BARRED_ATTRIBUTES = set(
    "items keys values pop update append clear extend insert remove reverse setdefault sort args encode decode hex "
    "fromhex format mro elements open input law version_info".split()
)
BARRED_WORDS = set(
    "type typing typing_extensions enum Enum IntEnum StrEnum Flag IntFlag Generic Protocol ABC ABCMeta namedtuple "
    "NamedTuple TypedDict TYPE_CHECKING abstractmethod dataclass overload contextmanager".split()
)
BARRED_NAMES = set(
    "register mro elements open input law version_info with_traceback add_note attrgetter breakpoint builtins compile "
    "copyright credits delattr dir eval exec exit gc getattr globals hasattr help id importlib license locals "
    "methodcaller os quit setattr super type vars sys map iter next".split()
)
STATEMENTS = (
    ast.FunctionDef, ast.ClassDef, ast.Return, ast.Assign, ast.AugAssign, ast.For, ast.While, ast.If, ast.With,
    ast.Raise, ast.Try, ast.Assert, ast.ImportFrom, ast.Expr, ast.Pass, ast.Break, ast.Continue, ast.Delete,
)
NO_EXPRESSIONS = (ast.GeneratorExp, ast.Yield, ast.YieldFrom, ast.Await, ast.Div, ast.MatMult, ast.NamedExpr)


class Files(unittest.TestCase):
    def setUp(self):
        self.texts = {path: path.read_text(encoding="utf-8") for path in sorted(PACKAGE.glob("*.py"))}
        self.assertIn(PACKAGE / "__init__.py", self.texts)

    def test_the_folder_contains_nothing_but_files_of_python(self):
        other = {path.name for path in PACKAGE.iterdir() if path not in self.texts}
        self.assertEqual(other - {"__pycache__"}, set())

    def test_sizes_and_characters(self):
        for path, text in self.texts.items():
            with self.subTest(path.name):
                lines = text.split("\n")
                self.assertLess(len(lines), 400)
                self.assertLessEqual(max(map(len, lines)), 120)
                self.assertEqual({sign for sign in text if sign != "\n" and not " " <= sign <= "~"}, set())

    def test_no_function_is_longer_than_40_lines(self):
        for path, text in self.texts.items():
            for node in ast.walk(ast.parse(text)):
                if isinstance(node, ast.FunctionDef):
                    with self.subTest(f"{path.name}: {node.name}"):
                        self.assertLessEqual(node.end_lineno - node.lineno + 1, 40)

    def test_imports_are_of_names_of_the_package_or_the_library(self):
        for path, text in self.texts.items():
            for node in ast.walk(ast.parse(text)):
                self.assertNotIsInstance(node, ast.Import, path.name)
                if isinstance(node, ast.ImportFrom):
                    known = node.module.startswith("manymakers.") or node.module in LIBRARY
                    self.assertTrue(known and node.level == 0, f"{path.name}: {node.module}")

    def test_no_two_files_import_from_each_other(self):
        ahead = {
            f"manymakers.{path.stem}": {
                node.module for node in ast.walk(ast.parse(text)) if isinstance(node, ast.ImportFrom)
            }
            for path, text in self.texts.items()
        }
        while free := [name for name, needed in ahead.items() if not needed & set(ahead)]:
            for name in free:
                del ahead[name]
        self.assertEqual(ahead, {})


class Names(unittest.TestCase):
    def setUp(self):
        self.trees = {
            path.name: ast.parse(path.read_text(encoding="utf-8")) for path in sorted(PACKAGE.glob("*.py"))
        }
        self.nodes = [(name, node) for name, tree in self.trees.items() for node in ast.walk(tree)]

    def stored(self, node):
        """Return the names that a node gives a meaning."""
        if isinstance(node, ast.Name) and not isinstance(node.ctx, ast.Load):
            return [node.id]
        if isinstance(node, ast.arg):
            return [node.arg]
        if isinstance(node, (ast.FunctionDef, ast.ClassDef)):
            return [node.name]
        return [alias.name for alias in node.names] if isinstance(node, ast.ImportFrom) else []

    def test_builtins_that_are_in_use(self):
        for file, tree in self.trees.items():
            own = {name for node in ast.walk(tree) for name in self.stored(node)}
            for node in ast.walk(tree):
                if isinstance(node, ast.Name) and isinstance(node.ctx, ast.Load) and node.id not in own:
                    self.assertIn(node.id, BUILTINS, f"{file}:{node.lineno}")

    def test_no_name_is_that_of_a_builtin_or_barred(self):
        for file, node in self.nodes:
            for name in self.stored(node):
                self.assertNotIn(name, set(dir(builtins)) | BARRED_NAMES, f"{file}:{node.lineno}")
                self.assertRegex(name, r"^(_|_?[A-Za-z][A-Za-z0-9_]*|__(init|eq|len|enter|exit)__)$")

    def test_no_local_name_is_that_of_a_class_or_an_import(self):
        for file, tree in self.trees.items():
            outer = {
                name for node in tree.body if isinstance(node, (ast.ClassDef, ast.ImportFrom))
                for name in self.stored(node)
            }
            for made in ast.walk(tree):
                if isinstance(made, ast.FunctionDef):
                    inner = {name for node in ast.walk(made) if node is not made for name in self.stored(node)}
                    self.assertEqual(inner & outer, set(), f"{file}: {made.name}")

    def test_names_are_bound_once_at_module_level(self):
        for file, tree in self.trees.items():
            bound = [name for node in tree.body for part in ast.iter_child_nodes(node) for name in self.stored(part)
                     if isinstance(node, ast.Assign)]
            bound += [name for node in tree.body if not isinstance(node, ast.Assign) for name in self.stored(node)]
            self.assertEqual(len(bound), len(set(bound)), file)

    def test_methods_that_are_called(self):
        own = {node.name for _, node in self.nodes if isinstance(node, ast.FunctionDef)}
        for file, node in self.nodes:
            if isinstance(node, ast.Call) and isinstance(node.func, ast.Attribute):
                self.assertIn(node.func.attr, METHODS | own, f"{file}:{node.lineno}")
                if node.func.attr in METHODS:
                    self.assertEqual(node.keywords, [], f"{file}:{node.lineno}")

    def test_attributes_that_are_assigned(self):
        methods = {
            made.name: {node.name for node in made.body if isinstance(node, ast.FunctionDef)}
            for _, made in self.nodes if isinstance(made, ast.ClassDef)
        }
        for file, node in self.nodes:
            if isinstance(node, ast.Attribute) and isinstance(node.ctx, ast.Store):
                self.assertNotIn(node.attr, BARRED_ATTRIBUTES, f"{file}:{node.lineno}")
                for name, found in methods.items():
                    self.assertNotIn(node.attr, found, f"{file}:{node.lineno} {name}")

    def test_statements_and_expressions(self):
        for file, node in self.nodes:
            if isinstance(node, ast.stmt):
                self.assertIsInstance(node, STATEMENTS, f"{file}:{node.lineno}")
            self.assertNotIsInstance(node, NO_EXPRESSIONS, file)
            if isinstance(node, ast.Constant):
                self.assertNotIsInstance(node.value, (float, complex), f"{file}:{node.lineno}")
            if isinstance(node, ast.BinOp) and isinstance(node.op, ast.Pow):
                self.assertIsInstance(node.right, ast.Constant, f"{file}:{node.lineno}")
            if isinstance(node, ast.Compare):
                for sign, right in zip(node.ops, node.comparators):
                    if isinstance(sign, (ast.Is, ast.IsNot)):
                        self.assertIsInstance(right, ast.Constant, f"{file}:{node.lineno}")

    def test_sets_stand_where_they_may(self):
        for file, tree in self.trees.items():
            allowed = set()
            for node in ast.walk(tree):
                if isinstance(node, ast.Call) and isinstance(node.func, ast.Name) and node.func.id in ("sorted", "len"):
                    allowed |= {id(part) for part in node.args}
            for node in ast.walk(tree):
                is_call = isinstance(node, ast.Call) and isinstance(node.func, ast.Name) and node.func.id == "set"
                if is_call or isinstance(node, (ast.Set, ast.SetComp)):
                    self.assertIn(id(node), allowed, f"{file}:{node.lineno}")

    def test_handlers_name_own_errors(self):
        own = {node.name for _, node in self.nodes if isinstance(node, ast.ClassDef)}
        for file, node in self.nodes:
            if isinstance(node, ast.ExceptHandler):
                names = node.type.elts if isinstance(node.type, ast.Tuple) else [node.type]
                self.assertLessEqual({name.id for name in names}, own, f"{file}:{node.lineno}")

    def test_words_and_strings(self):
        for path in sorted(PACKAGE.glob("*.py")):
            text = path.read_text(encoding="utf-8")
            for token in tokenize.generate_tokens(io.StringIO(text).readline):
                if token.type == tokenize.NAME:
                    self.assertNotIn(token.string, BARRED_WORDS, f"{path.name}:{token.start[0]}")
                if token.type == tokenize.STRING:
                    self.assertNotIn("%", token.string, f"{path.name}:{token.start[0]}")
                    self.assertIsNone(re.search(r"\\[^n\"'t\\]", token.string), f"{path.name}:{token.start[0]}")

    def test_lists_and_dicts_at_module_level_are_only_read(self):
        tables = {
            target.id for tree in self.trees.values() for node in tree.body if isinstance(node, ast.Assign)
            for target in node.targets if isinstance(node.value, (ast.List, ast.Dict))
        }
        self.assertIn("EVENT_PARTS", tables)
        for file, tree in self.trees.items():
            read = {
                id(node.func.value) for node in ast.walk(tree)
                if isinstance(node, ast.Call) and isinstance(node.func, ast.Attribute) and node.func.attr == "get"
            }
            for node in ast.walk(tree):
                if isinstance(node, ast.Name) and isinstance(node.ctx, ast.Load) and node.id in tables:
                    self.assertIn(id(node), read, f"{file}:{node.lineno}")
