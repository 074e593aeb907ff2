"""The files of the package keep to those rules of the language that can be seen without much reading."""

import ast
import builtins
import io
import pathlib
import re
import tokenize
import unittest

PACKAGE = pathlib.Path(__file__).resolve().parent.parent / "litmuscore"
FILES = sorted(PACKAGE.rglob("*.py"))
LIBRARY = {"heapq": ("heappush", "heappop", "heapify", "heapreplace", "heappushpop"),
           "math": ("gcd", "lcm", "isqrt", "comb", "perm", "factorial"),
           "itertools": ("product", "combinations", "permutations", "chain", "accumulate", "pairwise", "islice",
                         "zip_longest"),
           "collections": ("defaultdict",)}
BUILTINS = set("""len range enumerate zip min max sum abs sorted reversed int str bool bytes list tuple dict set
    isinstance ord repr any all divmod pow iter next map property staticmethod classmethod super Exception ValueError
    TypeError KeyError IndexError LookupError ZeroDivisionError ArithmeticError OverflowError RuntimeError
    NotImplementedError AttributeError StopIteration NotImplemented getattr hasattr setattr""".split())
METHODS = set("""append clear copy count endswith extend find get index insert isalnum isalpha isdigit islower isspace
    isupper items join keys ljust lower lstrip partition pop remove replace reverse rfind rjust rpartition rsplit
    rstrip setdefault split splitlines startswith strip update upper values zfill bit_length add discard sort
    __init__""".split())
NOWHERE = set("register mro elements open input law version_info with_traceback add_note".split())
WORDS = set("""type typing typing_extensions enum Enum IntEnum StrEnum Flag IntFlag Generic Protocol ABC ABCMeta
    namedtuple NamedTuple TypedDict TYPE_CHECKING abstractmethod""".split())
BARRED = (ast.Global, ast.AsyncFunctionDef, ast.AsyncFor, ast.AsyncWith, ast.Await, ast.Div, ast.MatMult, ast.Import)
EXPECTED_FILES = re.compile(r"[a-z][a-z0-9_]*\.py|__init__\.py|__main__\.py")


def bound_names(tree):
    """All names that are bound anywhere in a tree, with the lines."""
    for node in ast.walk(tree):
        if isinstance(node, ast.Name) and isinstance(node.ctx, ast.Store):
            yield node.id, node.lineno
        elif isinstance(node, ast.arg):
            yield node.arg, node.lineno
        elif isinstance(node, (ast.FunctionDef, ast.ClassDef)):
            yield node.name, node.lineno
        elif isinstance(node, ast.ExceptHandler) and node.name:
            yield node.name, node.lineno


def imports_of(tree):
    return [node for node in ast.walk(tree) if isinstance(node, ast.ImportFrom)]


def defined_in(tree):
    """The names that a file itself defines at module level."""
    names = {node.name for node in tree.body if isinstance(node, (ast.FunctionDef, ast.ClassDef))}
    for node in tree.body:
        if isinstance(node, ast.Assign):
            names |= {target.id for target in node.targets}
    return names


class LanguageTest(unittest.TestCase):
    def setUp(self):
        self.texts = {path: path.read_text(encoding="utf-8") for path in FILES}
        self.trees = {path: ast.parse(text) for path, text in self.texts.items()}

    def each_node(self):
        for path, tree in self.trees.items():
            for node in ast.walk(tree):
                yield path, node, f"{path.name}:{getattr(node, 'lineno', 0)}"

    def test_files(self):
        for path in PACKAGE.rglob("*"):
            if "__pycache__" in path.parts:
                continue
            self.assertTrue(path.is_dir() or EXPECTED_FILES.fullmatch(path.name), path)
            if path.is_dir():
                self.assertTrue((path / "__init__.py").exists(), path)
        self.assertTrue((PACKAGE / "__init__.py").exists())

    def test_sizes_and_characters(self):
        for path, text in self.texts.items():
            self.assertRegex(text, r"\A[ -~\n]*\Z", path)
            lines = text.split("\n")
            self.assertLessEqual(len(lines), 399, path)
            self.assertLessEqual(max(map(len, lines)), 120, path)
        for path, node, place in self.each_node():
            if isinstance(node, ast.FunctionDef):
                self.assertLessEqual(node.end_lineno - node.lineno + 1, 40, place)

    def test_imports(self):
        for path, tree in self.trees.items():
            for node in imports_of(tree):
                place = f"{path.name}:{node.lineno}"
                self.assertIn(node, tree.body, place)
                self.assertEqual(node.level, 0, place)
                if node.module in LIBRARY:
                    names = LIBRARY[node.module]
                else:
                    self.assertTrue(node.module.startswith("litmuscore."), place)
                    source = PACKAGE.parent / (node.module.replace(".", "/") + ".py")
                    names = defined_in(self.trees[source])
                for alias in node.names:
                    self.assertIn(alias.name, names, place)

    def test_no_two_files_import_from_each_other(self):
        needs = {f"litmuscore.{path.stem}": [node.module for node in imports_of(tree)]
                 for path, tree in self.trees.items()}
        done = set()
        while len(done) < len(needs):
            free = [name for name in needs if name not in done
                    and all(need in done or need not in needs for need in needs[name])]
            self.assertTrue(free, sorted(set(needs) - done))
            done.update(free)

    def test_module_level(self):
        allowed = (ast.ImportFrom, ast.FunctionDef, ast.ClassDef, ast.Assign, ast.Expr)
        for path, tree in self.trees.items():
            for node in tree.body:
                self.assertIsInstance(node, allowed, f"{path.name}:{node.lineno}")
            names = [name for name, _ in bound_names(ast.Module([
                node for node in tree.body if isinstance(node, ast.Assign)], []))]
            self.assertEqual(len(names), len(set(names)), path)

    def test_nodes_that_are_not_used(self):
        for path, node, place in self.each_node():
            self.assertNotIsInstance(node, BARRED, place)
            if isinstance(node, ast.Constant):
                self.assertNotIsInstance(node.value, (float, complex), place)
            if isinstance(node, ast.FunctionDef):
                self.assertLessEqual({decorator.id for decorator in node.decorator_list if
                                      isinstance(decorator, ast.Name)}, {"property", "staticmethod", "classmethod"})
            if isinstance(node, ast.Compare):
                for sign, right in zip(node.ops, node.comparators):
                    if isinstance(sign, (ast.Is, ast.IsNot)):
                        self.assertIn(ast.unparse(right), ("None", "True", "False"), place)

    def test_builtins_and_methods(self):
        for path, node, place in self.each_node():
            if isinstance(node, ast.Name) and isinstance(node.ctx, ast.Load) and node.id in vars(builtins):
                self.assertIn(node.id, BUILTINS, place)
            if isinstance(node, ast.Call) and isinstance(node.func, ast.Attribute):
                own = {name for tree in self.trees.values() for name, _ in bound_names(tree)}
                self.assertIn(node.func.attr, METHODS | own, place)

    def test_names(self):
        for path, tree in self.trees.items():
            imported = {alias.asname or alias.name for node in imports_of(tree) for alias in node.names}
            methods = [(node.name, node.lineno) for part in tree.body if isinstance(part, ast.ClassDef)
                       for node in part.body if isinstance(node, ast.FunctionDef)]
            for name, line in bound_names(tree):
                place = f"{path.name}:{line} {name}"
                self.assertNotIn(name, vars(builtins), place)
                # A method is read off its object, and so may have the name of an import.
                self.assertTrue(name not in imported or (name, line) in methods, place)
                self.assertNotIn(name, NOWHERE | WORDS, place)
                self.assertRegex(name, r"\A(_|_?[A-Za-z][A-Za-z0-9_]*|__(init|enter|exit|call|iter)__)\Z", place)

    def test_words_and_strings(self):
        for path, text in self.texts.items():
            for token in tokenize.generate_tokens(io.StringIO(text).readline):
                place = f"{path.name}:{token.start[0]}"
                if token.type == tokenize.NAME:
                    self.assertNotIn(token.string, WORDS | NOWHERE, place)
                if token.type == tokenize.STRING:
                    self.assertNotIn("%", token.string, place)
                    self.assertNotRegex(token.string, r"\\[^nt\\\"']", place)

    def test_sets_are_not_kept_by_objects(self):
        for path, node, place in self.each_node():
            if isinstance(node, ast.Assign) and isinstance(node.value, (ast.Set, ast.SetComp)):
                self.assertTrue(all(isinstance(target, ast.Name) for target in node.targets), place)
