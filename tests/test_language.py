"""What a look at the package's code can tell of the language rules and of the interface's names."""

import ast
import builtins
import pathlib
import re
import unittest

PACKAGE = pathlib.Path(__file__).resolve().parent.parent / "conceptscript"

INTERFACE = {
    "errors.py": {
        "ScriptError": None,
        "TextFault": ("self", "place", "reason"),
        "DrawingFault": ("self", "row", "column"),
        "ProofFault": ("self", "line", "reason"),
        "BookFault": ("self", "entry", "line", "reason"),
    },
    "formulas.py": {
        "size": ("formula",),
        "letters": ("formula",),
        "put": ("formula", "table"),
        "match": ("pattern", "formula"),
        "axiom": ("k",),
        "is_instance": ("k", "formula"),
        "numbers": ("strength",),
    },
    "texts.py": {
        "write": ("formula",),
        "read": ("text",),
    },
    "drawings.py": {
        "draw": ("formula",),
        "read_drawing": ("rows",),
        "width": ("formula",),
        "height": ("formula",),
    },
    "truth.py": {
        "is_true": ("formula", "row"),
        "falsifying": ("formula",),
        "alike": ("formula", "other"),
    },
    "proofs.py": {
        "check": ("proof",),
        "proved": ("proof",),
        "hypotheses": ("proof",),
        "axioms_of": ("proof",),
        "tree_size": ("proof",),
    },
    "shaping.py": {
        "trimmed": ("proof",),
        "joined": ("proof", "other"),
        "replaced": ("proof", "table"),
        "discharged": ("proof", "formula"),
    },
    "classical.py": {
        "prove": ("formula",),
    },
    "worlds.py": {
        "is_model": ("model", "strength"),
        "holds": ("model", "world", "formula", "strength"),
    },
    "positive.py": {
        "decide": ("formula", "strength"),
    },
    "following.py": {
        "follows": ("hypotheses", "formula", "strength"),
        "judge": ("hypotheses", "formula", "strength", "paper"),
        "least_sets": ("hypotheses", "formula", "strength"),
        "strongest": ("formula",),
    },
    "tables.py": {
        "value": ("table", "formula", "values"),
        "is_kept": ("table", "formula"),
        "keeps_rule": ("table",),
        "is_table": ("table",),
        "parts": ("table", "axioms", "formula"),
    },
    "apart.py": {
        "why_apart": ("k",),
        "find_table": ("axioms", "formula"),
    },
    "unifying.py": {
        "unify": ("formula", "other"),
        "renamed": ("formula",),
    },
    "steps.py": {
        "steps_of": ("proof",),
        "general": ("steps",),
        "proof_of": ("steps",),
        "length": ("steps",),
    },
    "books.py": {
        "check_book": ("book",),
        "unfolded": ("book", "name"),
        "uses": ("book", "name"),
    },
    "sequents.py": {
        "is_sequent_proof": ("proof",),
        "has_cut": ("proof",),
        "nodes": ("proof",),
        "decide_sequent": ("left", "right"),
        "sequents_of": ("proof",),
        "without_cuts": ("proof",),
        "formula_of": ("left", "right"),
    },
    "normal.py": {
        "normal": ("formula",),
        "normal_of": ("names", "rows"),
        "normal_proofs": ("formula",),
    },
    "interpolants.py": {
        "interpolant": ("p", "q"),
        "is_interpolant": ("p", "q", "i"),
        "strongest_over": ("p", "names"),
        "weakest_over": ("p", "names"),
    },
}

LIBRARY = {
    "heapq": {"heappush", "heappop", "heapify", "heapreplace", "heappushpop"},
    "math": {"gcd", "lcm", "isqrt", "comb", "perm", "factorial"},
    "itertools": {"product", "combinations", "permutations", "chain", "accumulate", "pairwise", "islice",
                  "zip_longest"},
    "collections": {"defaultdict", "deque"},
}

BUILTINS = set("""
    len range enumerate zip min max sum abs sorted reversed int str bool bytes list tuple dict set frozenset isinstance
    ord repr any all divmod pow getattr hasattr setattr iter next map super property staticmethod classmethod type
    Exception ValueError TypeError KeyError IndexError LookupError ZeroDivisionError ArithmeticError OverflowError
    RuntimeError NotImplementedError AttributeError StopIteration NotImplemented
""".split())

METHODS = set("""
    append clear copy count endswith extend find get index insert isalnum isalpha isdigit islower isspace isupper items
    join keys ljust lower lstrip partition pop remove replace reverse rfind rjust rpartition rsplit rstrip setdefault
    split splitlines startswith strip update upper values zfill bit_length add discard sort appendleft popleft
    extendleft rotate format __init__
""".split())

BARRED_NODES = (
    ast.AsyncFunctionDef, ast.AsyncFor, ast.AsyncWith, ast.Await, ast.Import, ast.Div, ast.MatMult,
)

BARRED_WORDS = re.compile(
    r"\b(register|mro|elements|open|input|law|version_info|with_traceback|add_note|typing|typing_extensions|enum|Enum"
    r"|IntEnum|StrEnum|Flag|IntFlag|Generic|Protocol|ABC|ABCMeta|namedtuple|NamedTuple|TypedDict|TYPE_CHECKING"
    r"|abstractmethod|_wall|_WallAttr)\b|dataclass|overload|contextmanager"
)


def modules():
    for path in sorted(PACKAGE.rglob("*.py")):
        text = path.read_text(encoding="utf-8")
        yield path, text, ast.parse(text)


def is_docstring(node):
    return isinstance(node, ast.Expr) and isinstance(node.value, ast.Constant) and isinstance(node.value.value, str)


class TestFiles(unittest.TestCase):
    def test_the_folder_has_plain_files_only(self):
        names = [path.name for path in PACKAGE.iterdir() if path.name != "__pycache__"]
        self.assertIn("__init__.py", names)
        for name in names:
            self.assertRegex(name, r"^(__init__|[a-z][a-z0-9_]*)\.py$")

    def test_signs_and_sizes(self):
        for path, text, tree in modules():
            with self.subTest(path=path.name):
                self.assertRegex(text, r"^[\n -~]*\Z")
                lines = text.split("\n")
                self.assertLessEqual(len(lines) - 1, 399)
                self.assertLessEqual(max(map(len, lines)), 120)
                for node in ast.walk(tree):
                    if isinstance(node, ast.FunctionDef):
                        self.assertLessEqual(node.end_lineno - node.lineno + 1, 40, node.name)


class TestCode(unittest.TestCase):
    def test_module_level(self):
        for path, _, tree in modules():
            for at, node in enumerate(tree.body):
                with self.subTest(path=path.name, line=node.lineno):
                    if isinstance(node, ast.Assign):
                        self.assertEqual(len(node.targets), 1)
                        self.assertIsInstance(node.targets[0], ast.Name)
                        ast.literal_eval(node.value)
                    else:
                        kinds = (ast.ImportFrom, ast.FunctionDef, ast.ClassDef)
                        self.assertTrue(isinstance(node, kinds) or at == 0 and is_docstring(node))

    def test_imports(self):
        for path, _, tree in modules():
            for node in ast.walk(tree):
                if isinstance(node, ast.ImportFrom):
                    with self.subTest(path=path.name, line=node.lineno):
                        self.assertIn(node, tree.body)
                        self.assertEqual(node.level, 0)
                        if node.module in LIBRARY:
                            self.assertLessEqual({name.name for name in node.names}, LIBRARY[node.module])
                        else:
                            self.assertRegex(node.module, r"^conceptscript\.[a-z_]+$")

    def test_barred_statements_and_values(self):
        for path, _, tree in modules():
            for node in ast.walk(tree):
                with self.subTest(path=path.name, line=getattr(node, "lineno", None)):
                    self.assertNotIsInstance(node, BARRED_NODES)
                    if isinstance(node, ast.Constant):
                        self.assertNotIsInstance(node.value, (float, complex))
                        self.assertFalse(isinstance(node.value, str) and not is_plain(node.value), node.value)

    def test_barred_words(self):
        for path, _, tree in modules():
            texts = [node.value for node in ast.walk(tree) if is_docstring(node)]
            for node in ast.walk(tree):
                if node not in texts:
                    for _, value in ast.iter_fields(node):
                        with self.subTest(path=path.name, line=getattr(node, "lineno", None)):
                            self.assertFalse(isinstance(value, str) and BARRED_WORDS.search(value), value)

    def test_names_of_python(self):
        known = set(dir(builtins))
        for path, _, tree in modules():
            for node in ast.walk(tree):
                with self.subTest(path=path.name, line=getattr(node, "lineno", None)):
                    if isinstance(node, ast.Name) and node.id in known:
                        self.assertIsInstance(node.ctx, ast.Load)
                        self.assertIn(node.id, BUILTINS)
                    if isinstance(node, ast.arg):
                        self.assertNotIn(node.arg, known)

    def test_methods(self):
        own = {node.name for _, _, tree in modules() for kind in classes(tree) for node in kind.body
               if isinstance(node, ast.FunctionDef)}
        for path, _, tree in modules():
            for node in ast.walk(tree):
                if isinstance(node, ast.Call) and isinstance(node.func, ast.Attribute):
                    with self.subTest(path=path.name, line=node.lineno):
                        self.assertIn(node.func.attr, METHODS | own)

    def test_own_methods_and_attributes(self):
        barred = set(dir(str)) | set(dir(list)) | set(dir(dict)) | set(dir(set)) | set(dir(int)) | set(dir(bytes))
        attributes, methods = {}, {}
        for path, _, tree in modules():
            for kind in classes(tree):
                methods[kind.name] = {node.name for node in kind.body if isinstance(node, ast.FunctionDef)}
                attributes[kind.name] = {node.attr for node in ast.walk(kind) if isinstance(node, ast.Attribute)
                                         and isinstance(node.ctx, ast.Store)}
        for name, found in methods.items():
            self.assertFalse(found & barred - {"__init__"}, name)
            self.assertFalse(attributes[name] & barred, name)
            for other in attributes.values():
                self.assertFalse(found & other, name)

    def test_no_local_name_is_that_of_an_import_or_a_class(self):
        for path, _, tree in modules():
            taken = {alias.name for node in tree.body if isinstance(node, ast.ImportFrom) for alias in node.names}
            taken |= {kind.name for kind in classes(tree)}
            for node in ast.walk(tree):
                with self.subTest(path=path.name, line=getattr(node, "lineno", None)):
                    if isinstance(node, ast.arg):
                        self.assertNotIn(node.arg, taken)
                    if isinstance(node, ast.Name) and not isinstance(node.ctx, ast.Load):
                        self.assertNotIn(node.id, taken)

    def test_each_import_is_used_and_names_the_file_that_defines_it(self):
        trees = {"conceptscript." + path.stem: tree for path, _, tree in modules()}
        for path, _, tree in modules():
            used = {node.id for node in ast.walk(tree) if isinstance(node, ast.Name)}
            for node in tree.body:
                if isinstance(node, ast.ImportFrom):
                    for alias in node.names:
                        with self.subTest(path=path.name, name=alias.name):
                            self.assertIn(alias.name, used)
                            self.assertIsNone(alias.asname)
                            if node.module in trees:
                                self.assertIn(alias.name, bound_names(trees[node.module]))

    def test_no_imports_in_a_circle(self):
        wanted = {}
        for path, _, tree in modules():
            wanted[path.stem] = {node.module.rpartition(".")[2] for node in tree.body
                                 if isinstance(node, ast.ImportFrom) and node.module not in LIBRARY}
        while wanted:
            free = [name for name, others in wanted.items() if not others & set(wanted)]
            self.assertTrue(free, wanted)
            for name in free:
                del wanted[name]

    def test_sets_and_generators(self):
        for path, _, tree in modules():
            parents = {child: node for node in ast.walk(tree) for child in ast.iter_child_nodes(node)}
            for node in ast.walk(tree):
                with self.subTest(path=path.name, line=getattr(node, "lineno", None)):
                    if isinstance(node, ast.GeneratorExp):
                        self.assertIn(called_name(parents[node]), GENERATOR_TAKERS)
                    if isinstance(node, (ast.Set, ast.SetComp)) or called_name(node) == "set":
                        whole = parents[node]
                        stored = isinstance(whole, ast.Assign) and isinstance(whole.targets[0], ast.Name)
                        compared = isinstance(whole, ast.Compare)
                        self.assertTrue(stored or compared or called_name(whole) in ("sorted", "len"))

    def test_is(self):
        for path, _, tree in modules():
            for node in ast.walk(tree):
                if isinstance(node, ast.Compare) and isinstance(node.ops[0], (ast.Is, ast.IsNot)):
                    with self.subTest(path=path.name, line=node.lineno):
                        other = node.comparators[0]
                        of_kind = called_name(node.left) == "type" and isinstance(other, ast.Name)
                        self.assertTrue(of_kind or isinstance(other, ast.Constant) and other.value in (None, True, False))

    def test_each_call_of_an_own_function_passes_what_it_takes(self):
        defined = {"conceptscript." + path.stem: {node.name: len(node.args.args) for node in tree.body
                                                  if isinstance(node, ast.FunctionDef)}
                   for path, _, tree in modules()}
        for path, _, tree in modules():
            many = dict(defined["conceptscript." + path.stem])
            for node in tree.body:
                if isinstance(node, ast.ImportFrom):
                    known = defined.get(node.module, {})
                    many |= {alias.name: known[alias.name] for alias in node.names if alias.name in known}
            for node in ast.walk(tree):
                if called_name(node) in many:
                    with self.subTest(path=path.name, line=node.lineno):
                        self.assertEqual(len(node.args) + len(node.keywords), many[node.func.id])


GENERATOR_TAKERS = ("list", "tuple", "dict", "sorted", "sum", "min", "max", "any", "all")


def classes(tree):
    return [node for node in tree.body if isinstance(node, ast.ClassDef)]


def called_name(node):
    """The bare name that a call calls, or None."""
    return node.func.id if isinstance(node, ast.Call) and isinstance(node.func, ast.Name) else None


def bound_names(tree):
    """The names that a module itself defines."""
    names = {node.name for node in tree.body if isinstance(node, (ast.FunctionDef, ast.ClassDef))}
    return names | {node.targets[0].id for node in tree.body if isinstance(node, ast.Assign)}


def is_plain(text):
    return "%" not in text and not (len(text) > 3 and text.startswith("__") and text.endswith("__"))


class TestInterface(unittest.TestCase):
    def test_each_name_is_defined_in_its_file_with_its_arguments(self):
        trees = {path.name: tree for path, _, tree in modules()}
        for file, names in INTERFACE.items():
            defined = {node.name: node for node in trees[file].body if hasattr(node, "name")}
            for name, arguments in names.items():
                with self.subTest(file=file, name=name):
                    node = defined[name]
                    if isinstance(node, ast.ClassDef):
                        node = {inner.name: inner for inner in node.body if hasattr(inner, "name")}.get("__init__")
                    found = node and tuple(argument.arg for argument in node.args.args)
                    self.assertEqual(found, arguments)


if __name__ == "__main__":
    unittest.main()
