"""What a look at the package's code can tell of the language rules and of the interface's names."""

import ast
import builtins
import pathlib
import re
import unittest

PACKAGE = pathlib.Path(__file__).resolve().parent.parent / "conceptscript"

INTERFACE = {
    "errors.py": {
        "ScriptError": None,
        "TextFault": ("self", "place", "reason"),
        "DrawingFault": ("self", "row", "column"),
        "ProofFault": ("self", "line", "reason"),
        "BookFault": ("self", "entry", "line", "reason"),
    },
    "formulas.py": {
        "size": ("formula",),
        "letters": ("formula",),
        "put": ("formula", "table"),
        "match": ("pattern", "formula"),
        "axiom": ("k",),
        "is_instance": ("k", "formula"),
        "numbers": ("strength",),
    },
    "texts.py": {
        "write": ("formula",),
        "read": ("text",),
    },
}

LIBRARY = {
    "heapq": {"heappush", "heappop", "heapify", "heapreplace", "heappushpop"},
    "math": {"gcd", "lcm", "isqrt", "comb", "perm", "factorial"},
    "itertools": {"product", "combinations", "permutations", "chain", "accumulate", "pairwise", "islice",
                  "zip_longest"},
    "collections": {"defaultdict", "deque"},
}

BUILTINS = set("""
    len range enumerate zip min max sum abs sorted reversed int str bool bytes list tuple dict set frozenset isinstance
    ord repr any all divmod pow getattr hasattr setattr iter next map super property staticmethod classmethod type
    Exception ValueError TypeError KeyError IndexError LookupError ZeroDivisionError ArithmeticError OverflowError
    RuntimeError NotImplementedError AttributeError StopIteration NotImplemented
""".split())

METHODS = set("""
    append clear copy count endswith extend find get index insert isalnum isalpha isdigit islower isspace isupper items
    join keys ljust lower lstrip partition pop remove replace reverse rfind rjust rpartition rsplit rstrip setdefault
    split splitlines startswith strip update upper values zfill bit_length add discard sort appendleft popleft
    extendleft rotate format __init__
""".split())

BARRED_NODES = (
    ast.AsyncFunctionDef, ast.AsyncFor, ast.AsyncWith, ast.Await, ast.Import, ast.Div, ast.MatMult,
)

BARRED_WORDS = re.compile(
    r"\b(register|mro|elements|open|input|law|version_info|with_traceback|add_note|typing|typing_extensions|enum|Enum"
    r"|IntEnum|StrEnum|Flag|IntFlag|Generic|Protocol|ABC|ABCMeta|namedtuple|NamedTuple|TypedDict|TYPE_CHECKING"
    r"|abstractmethod|_wall|_WallAttr)\b|dataclass|overload|contextmanager"
)


def modules():
    for path in sorted(PACKAGE.rglob("*.py")):
        text = path.read_text(encoding="utf-8")
        yield path, text, ast.parse(text)


def is_docstring(node):
    return isinstance(node, ast.Expr) and isinstance(node.value, ast.Constant) and isinstance(node.value.value, str)


class TestFiles(unittest.TestCase):
    def test_the_folder_has_plain_files_only(self):
        names = [path.name for path in PACKAGE.iterdir() if path.name != "__pycache__"]
        self.assertIn("__init__.py", names)
        for name in names:
            self.assertRegex(name, r"^(__init__|[a-z][a-z0-9_]*)\.py$")

    def test_signs_and_sizes(self):
        for path, text, tree in modules():
            with self.subTest(path=path.name):
                self.assertRegex(text, r"^[\n -~]*\Z")
                lines = text.split("\n")
                self.assertLessEqual(len(lines) - 1, 399)
                self.assertLessEqual(max(map(len, lines)), 120)
                for node in ast.walk(tree):
                    if isinstance(node, ast.FunctionDef):
                        self.assertLessEqual(node.end_lineno - node.lineno + 1, 40, node.name)


class TestCode(unittest.TestCase):
    def test_module_level(self):
        for path, _, tree in modules():
            for at, node in enumerate(tree.body):
                with self.subTest(path=path.name, line=node.lineno):
                    if isinstance(node, ast.Assign):
                        self.assertEqual(len(node.targets), 1)
                        self.assertIsInstance(node.targets[0], ast.Name)
                        ast.literal_eval(node.value)
                    else:
                        kinds = (ast.ImportFrom, ast.FunctionDef, ast.ClassDef)
                        self.assertTrue(isinstance(node, kinds) or at == 0 and is_docstring(node))

    def test_imports(self):
        for path, _, tree in modules():
            for node in ast.walk(tree):
                if isinstance(node, ast.ImportFrom):
                    with self.subTest(path=path.name, line=node.lineno):
                        self.assertIn(node, tree.body)
                        self.assertEqual(node.level, 0)
                        if node.module in LIBRARY:
                            self.assertLessEqual({name.name for name in node.names}, LIBRARY[node.module])
                        else:
                            self.assertRegex(node.module, r"^conceptscript\.[a-z_]+$")

    def test_barred_statements_and_values(self):
        for path, _, tree in modules():
            for node in ast.walk(tree):
                with self.subTest(path=path.name, line=getattr(node, "lineno", None)):
                    self.assertNotIsInstance(node, BARRED_NODES)
                    if isinstance(node, ast.Constant):
                        self.assertNotIsInstance(node.value, (float, complex))
                        self.assertFalse(isinstance(node.value, str) and not is_plain(node.value), node.value)

    def test_barred_words(self):
        for path, _, tree in modules():
            texts = [node.value for node in ast.walk(tree) if is_docstring(node)]
            for node in ast.walk(tree):
                if node not in texts:
                    for _, value in ast.iter_fields(node):
                        with self.subTest(path=path.name, line=getattr(node, "lineno", None)):
                            self.assertFalse(isinstance(value, str) and BARRED_WORDS.search(value), value)

    def test_names_of_python(self):
        known = set(dir(builtins))
        for path, _, tree in modules():
            for node in ast.walk(tree):
                with self.subTest(path=path.name, line=getattr(node, "lineno", None)):
                    if isinstance(node, ast.Name) and node.id in known:
                        self.assertIsInstance(node.ctx, ast.Load)
                        self.assertIn(node.id, BUILTINS)
                    if isinstance(node, ast.arg):
                        self.assertNotIn(node.arg, known)

    def test_methods(self):
        for path, _, tree in modules():
            for node in ast.walk(tree):
                if isinstance(node, ast.Call) and isinstance(node.func, ast.Attribute):
                    with self.subTest(path=path.name, line=node.lineno):
                        self.assertIn(node.func.attr, METHODS)


def is_plain(text):
    return "%" not in text and not (len(text) > 3 and text.startswith("__") and text.endswith("__"))


class TestInterface(unittest.TestCase):
    def test_each_name_is_defined_in_its_file_with_its_arguments(self):
        trees = {path.name: tree for path, _, tree in modules()}
        for file, names in INTERFACE.items():
            defined = {node.name: node for node in trees[file].body if hasattr(node, "name")}
            for name, arguments in names.items():
                with self.subTest(file=file, name=name):
                    node = defined[name]
                    if isinstance(node, ast.ClassDef):
                        node = {inner.name: inner for inner in node.body if hasattr(inner, "name")}.get("__init__")
                    found = node and tuple(argument.arg for argument in node.args.args)
                    self.assertEqual(found, arguments)


if __name__ == "__main__":
    unittest.main()
