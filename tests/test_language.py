"""Rules of the language that can be read off the files of the package."""

import ast
import builtins
import pathlib
import re
import unittest

PACKAGE = pathlib.Path(__file__).resolve().parent.parent / "lastproof"
LIBRARY = {
    "heapq": {"heappush", "heappop", "heapify", "heapreplace", "heappushpop"},
    "math": {"gcd", "lcm", "isqrt", "comb", "perm", "factorial"},
    "itertools": {"product", "combinations", "permutations", "chain", "accumulate", "pairwise", "islice",
                  "zip_longest"},
    "collections": {"defaultdict"},
    "__future__": {"annotations"},
}
BUILTINS = set(
    "len range enumerate zip min max sum abs sorted reversed int str bool bytes list tuple dict set frozenset "
    "isinstance ord repr any all divmod pow getattr hasattr setattr map iter next super Exception ValueError "
    "TypeError KeyError IndexError LookupError ZeroDivisionError ArithmeticError OverflowError RuntimeError "
    "NotImplementedError AttributeError StopIteration NotImplemented property staticmethod classmethod".split()
)
NOT_NAMES = set("register mro elements open input law version_info with_traceback add_note".split())
NOT_WORDS = re.compile(
    r"\b(type|typing|typing_extensions|enum|Enum|IntEnum|StrEnum|Flag|IntFlag|Generic|Protocol|ABC|ABCMeta"
    r"|namedtuple|NamedTuple|TypedDict|TYPE_CHECKING|abstractmethod)\b|dataclass|overload|contextmanager"
)
METHODS = set(
    "append clear copy count endswith extend find get index insert isalnum isalpha isdigit islower isspace isupper "
    "items join keys ljust lower lstrip partition pop remove replace reverse rfind rjust rpartition rsplit rstrip "
    "setdefault split splitlines startswith strip update upper values zfill bit_length sort add discard".split()
)
NOT_ATTRIBUTES = set(
    "items keys values pop update append clear extend insert remove reverse setdefault sort args encode decode hex "
    "fromhex format format_map mro as_integer_ratio bit_count conjugate from_bytes is_integer to_bytes real imag "
    "numerator denominator".split()
)
DOUBLE = ("__init__", "__eq__", "__repr__", "__str__", "__len__", "__call__", "__iter__")
STATEMENTS = (ast.Global, ast.AsyncFunctionDef, ast.AsyncFor, ast.AsyncWith, ast.Await, ast.Import)


def files():
    return sorted(PACKAGE.rglob("*.py"))


def trees():
    return [(path, ast.parse(path.read_text(encoding="utf-8"))) for path in files()]


def module_file(name):
    path = PACKAGE.parent.joinpath(*name.split("."))
    return path / "__init__.py" if path.is_dir() else path.with_suffix(".py")


def is_docstring(node, parents):
    above = parents.get(node)
    owner = parents.get(above)
    return (isinstance(above, ast.Expr) and hasattr(owner, "body") and owner.body[0] is above
            and isinstance(owner, (ast.Module, ast.ClassDef, ast.FunctionDef)))


def parents_of(tree):
    return {child: node for node in ast.walk(tree) for child in ast.iter_child_nodes(node)}


class FilesTest(unittest.TestCase):
    def test_the_package_contains_python_files_only(self):
        for path in PACKAGE.rglob("*"):
            if "__pycache__" in path.parts:
                continue
            self.assertRegex(path.name, r"^[a-z0-9_]+(\.py)?$")
            if path.is_dir():
                self.assertTrue((path / "__init__.py").is_file(), path)
                self.assertFalse(path.with_suffix(".py").exists(), path)
            else:
                self.assertEqual(path.suffix, ".py")
        self.assertLessEqual(len(files()), 100)

    def test_characters_and_lengths(self):
        for path in files():
            text = path.read_bytes().decode("ascii")
            self.assertFalse(set(text) - {chr(k) for k in range(32, 127)} - {"\n"}, path)
            lines = text.split("\n")
            self.assertLessEqual(len(lines) - 1, 399, path)
            for line in lines:
                self.assertLessEqual(len(line), 120, path)
                self.assertEqual(line, line.rstrip(), path)

    def test_functions_have_at_most_40_lines(self):
        for path, tree in trees():
            for node in ast.walk(tree):
                if isinstance(node, (ast.FunctionDef, ast.Lambda)):
                    self.assertLessEqual(node.end_lineno - node.lineno + 1, 40, (path, node.lineno))


class ImportsTest(unittest.TestCase):
    def test_imports_name_the_file_that_defines_the_name(self):
        defined = {}
        for path, tree in trees():
            defined[path] = {node.name for node in tree.body if isinstance(node, (ast.FunctionDef, ast.ClassDef))}
            defined[path] |= {t.id for node in tree.body if isinstance(node, ast.Assign) for t in node.targets}
        for path, tree in trees():
            for node in ast.walk(tree):
                if isinstance(node, ast.ImportFrom):
                    self.assertIn(node, tree.body, path)
                    names = {alias.name for alias in node.names}
                    self.assertEqual({alias.asname for alias in node.names}, {None}, path)
                    allowed = LIBRARY.get(node.module) or defined[module_file(node.module)]
                    self.assertLessEqual(names, allowed, path)

    def test_no_two_files_import_from_each_other(self):
        below = {path: {module_file(node.module) for node in tree.body
                        if isinstance(node, ast.ImportFrom) and node.module not in LIBRARY}
                 for path, tree in trees()}
        done = set()

        def visit(path, around):
            self.assertNotIn(path, around)
            if path not in done:
                for other in below[path]:
                    visit(other, around + [path])
                done.add(path)

        for path in below:
            visit(path, [])

    def test_every_import_is_used(self):
        for path, tree in trees():
            used = {node.id for node in ast.walk(tree) if isinstance(node, ast.Name)}
            for node in tree.body:
                if isinstance(node, ast.ImportFrom):
                    self.assertLessEqual({alias.name for alias in node.names}, used, path)


class WordsTest(unittest.TestCase):
    def test_statements_and_values(self):
        for path, tree in trees():
            for node in ast.walk(tree):
                self.assertNotIsInstance(node, STATEMENTS, path)
                self.assertFalse(isinstance(node, ast.Constant) and isinstance(node.value, float), path)
                self.assertFalse(isinstance(node, ast.BinOp) and isinstance(node.op, (ast.Div, ast.MatMult)), path)

    def test_module_level(self):
        for path, tree in trees():
            for k, node in enumerate(tree.body):
                docstring = k == 0 and isinstance(node, ast.Expr) and isinstance(node.value, ast.Constant)
                allowed = (ast.ImportFrom, ast.FunctionDef, ast.ClassDef, ast.Assign)
                self.assertTrue(docstring or isinstance(node, allowed), (path, node.lineno))

    def test_names(self):
        for path, tree in trees():
            at_top = set()
            for node in tree.body:
                if isinstance(node, ast.ImportFrom):
                    at_top |= {alias.name for alias in node.names}
                elif isinstance(node, ast.ClassDef):
                    at_top.add(node.name)
            for node in ast.walk(tree):
                stored = []
                if isinstance(node, ast.Name) and isinstance(node.ctx, ast.Store):
                    stored = [node.id]
                elif isinstance(node, ast.arg):
                    stored = [node.arg]
                elif isinstance(node, (ast.FunctionDef, ast.ClassDef)):
                    stored = [node.name]
                for name in [name for name in stored if name not in DOUBLE]:
                    self.assertNotIn(name, BUILTINS | NOT_NAMES | set(dir(builtins)), path)
                    self.assertRegex(name, "^(_|_?[A-Za-z].*)$", path)
                    if not isinstance(node, ast.ClassDef):
                        self.assertNotIn(name, at_top, path)

    def test_calls_of_builtins_and_methods(self):
        for path, tree in trees():
            bound = {node.id for node in ast.walk(tree) if isinstance(node, ast.Name)
                     and isinstance(node.ctx, ast.Store)}
            bound |= {node.arg for node in ast.walk(tree) if isinstance(node, ast.arg)}
            bound |= {node.name for node in ast.walk(tree) if isinstance(node, (ast.FunctionDef, ast.ClassDef))}
            bound |= {alias.name for node in tree.body if isinstance(node, ast.ImportFrom) for alias in node.names}
            own = {node.name for _, other in trees() for node in ast.walk(other) if isinstance(node, ast.FunctionDef)}
            for node in ast.walk(tree):
                if isinstance(node, ast.Name):
                    self.assertIn(node.id, bound | BUILTINS, (path, node.lineno))
                if isinstance(node, ast.Call) and isinstance(node.func, ast.Attribute):
                    self.assertIn(node.func.attr, METHODS | own, (path, node.lineno))

    def test_strings_and_words(self):
        for path, tree in trees():
            parents = parents_of(tree)
            strings = [node for node in ast.walk(tree) if isinstance(node, ast.Constant)
                       and isinstance(node.value, str)]
            for node in strings:
                self.assertNotIn("%", node.value, (path, node.lineno))
                if not is_docstring(node, parents):
                    self.assertIsNone(NOT_WORDS.search(node.value), (path, node.lineno))
            for node in ast.walk(tree):
                for field in ("id", "arg", "name", "attr"):
                    word = getattr(node, field, None)
                    if isinstance(word, str):
                        self.assertIsNone(NOT_WORDS.search(word), (path, word))

    def test_attributes(self):
        for path, tree in trees():
            for node in [node for node in ast.walk(tree) if isinstance(node, ast.ClassDef)]:
                methods = [one.name for one in node.body if isinstance(one, ast.FunctionDef)]
                self.assertEqual(len(methods), len(set(methods)), path)
                stored = {one.attr for one in ast.walk(node) if isinstance(one, ast.Attribute)
                          and isinstance(one.ctx, ast.Store)}
                self.assertFalse(stored & (set(methods) | NOT_ATTRIBUTES), path)
        stored = {one.attr for _, tree in trees() for one in ast.walk(tree) if isinstance(one, ast.Attribute)
                  and isinstance(one.ctx, ast.Store)}
        called = {node.name for _, tree in trees() for node in ast.walk(tree) if isinstance(node, ast.FunctionDef)}
        for path, tree in trees():
            for node in ast.walk(tree):
                if isinstance(node, ast.Attribute) and isinstance(node.ctx, ast.Load):
                    self.assertIn(node.attr, stored | called | METHODS | {"__init__"}, (path, node.lineno))

    def test_escapes(self):
        for path in files():
            for escape in re.findall(r"\\(.)", path.read_text(encoding="ascii")):
                self.assertIn(escape, "nt\\\"'", path)
