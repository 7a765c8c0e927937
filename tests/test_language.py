"""The rules of LANGUAGE.md that a file shows by itself; each test names the rules that it looks at."""

import ast
import unittest
from pathlib import Path

PACKAGE = Path(__file__).resolve().parent.parent / "edgelink"
LIBRARY = {
    "heapq": {"heappush", "heappop", "heapify", "heapreplace", "heappushpop"},
    "math": {"gcd", "lcm", "isqrt", "comb", "perm", "factorial"},
    "itertools": {"product", "combinations", "permutations", "chain", "accumulate", "pairwise", "islice",
                  "zip_longest"},
    "collections": {"defaultdict", "deque"},
}
BUILTINS = set(
    "len range enumerate zip min max sum abs sorted reversed int str bool list tuple dict set frozenset isinstance ord "
    "repr any all divmod pow iter next map Exception ValueError TypeError KeyError IndexError LookupError "
    "ZeroDivisionError RuntimeError super".split()
)
METHODS = set(
    "append clear copy count endswith extend find get index insert isalnum isalpha isdigit islower isspace isupper "
    "items join keys ljust lower lstrip partition pop remove replace reverse rfind rjust rpartition rsplit rstrip "
    "setdefault split splitlines startswith strip update upper values zfill bit_length sort add discard "
    "appendleft popleft removeprefix removesuffix isascii isdecimal __init__".split()
)
BARRED_WORDS = set(
    "type typing typing_extensions enum Enum IntEnum StrEnum Flag IntFlag Generic Protocol ABC ABCMeta namedtuple "
    "NamedTuple TypedDict TYPE_CHECKING abstractmethod dataclass overload contextmanager".split()
)
BARRED_NAMES = set(
    "register mro elements open input law version_info with_traceback add_note attrgetter breakpoint builtins compile "
    "copyright credits delattr dir eval exec exit gc getattr globals hasattr help id importlib license locals "
    "methodcaller os quit setattr super type vars sys hash round format slice filter".split()
)
BARRED_NODES = (
    ast.Global, ast.AsyncFunctionDef, ast.Await, ast.AsyncFor, ast.AsyncWith, ast.Div, ast.MatMult, ast.Import,
)


def sources():
    """Return the path, text and tree of each file of the package."""
    files = sorted(PACKAGE.glob("*.py"))
    return [(path, path.read_text("utf-8"), ast.parse(path.read_text("utf-8"))) for path in files]


def nodes(kind):
    """Return the path and each node of a kind, of all files."""
    return [(path, node) for path, _, tree in sources() for node in ast.walk(tree) if isinstance(node, kind)]


def is_docstring(statement):
    """Tell whether a statement is a string alone."""
    return isinstance(statement, ast.Expr) and isinstance(statement.value, ast.Constant)


def bound_names(tree):
    """Return all names that a tree binds: variables, parameters, functions, classes, imports."""
    names = [node.id for node in ast.walk(tree) if isinstance(node, ast.Name) and isinstance(node.ctx, ast.Store)]
    names += [node.arg for node in ast.walk(tree) if isinstance(node, ast.arg)]
    names += [node.name for node in ast.walk(tree) if isinstance(node, (ast.FunctionDef, ast.ClassDef))]
    return names + [node.name for node in ast.walk(tree) if isinstance(node, ast.alias)]


class LanguageTest(unittest.TestCase):
    def test_l1_l14_files(self):
        self.assertTrue((PACKAGE / "__init__.py").is_file())
        for path in PACKAGE.iterdir():
            if path.name != "__pycache__":
                self.assertRegex(path.name, r"^[a-z0-9_]+\.py$")

    def test_l10_l14_sizes_and_characters(self):
        for path, text, tree in sources():
            lines = text.split("\n")
            self.assertLessEqual(len(lines), 400, path.name)
            self.assertLessEqual(max(len(line) for line in lines), 120, path.name)
            self.assertRegex(text, r"\A[ -~\n]+\Z", path.name)
            for node in ast.walk(tree):
                if isinstance(node, ast.FunctionDef):
                    self.assertLessEqual(node.end_lineno - node.lineno + 1, 40, f"{path.name} {node.name}")

    def test_l2_l16_imports(self):
        files = {f"edgelink.{path.stem}": tree for path, _, tree in sources()}
        for path, node in nodes(ast.ImportFrom):
            self.assertEqual(node.level, 0, path.name)
            for alias in node.names:
                if node.module in LIBRARY:
                    self.assertIn(alias.name, LIBRARY[node.module], path.name)
                    self.assertIsNone(alias.asname, path.name)
                else:
                    defined = [part.name for part in files[node.module].body
                               if isinstance(part, (ast.FunctionDef, ast.ClassDef))]
                    defined += [target.id for part in files[node.module].body if isinstance(part, ast.Assign)
                                for target in part.targets]
                    self.assertIn(alias.name, defined, path.name)

    def test_l16_no_circle_of_imports(self):
        needs = {f"edgelink.{path.stem}": {node.module for node in tree.body if isinstance(node, ast.ImportFrom)}
                 for path, _, tree in sources()}
        while needs:
            ready = [name for name, others in needs.items() if not others & set(needs)]
            self.assertTrue(ready, f"these import one another: {sorted(needs)}")
            needs = {name: others for name, others in needs.items() if name not in ready}

    def test_l3_module_level(self):
        for path, _, tree in sources():
            seen_other = False
            for statement in tree.body:
                if isinstance(statement, ast.ImportFrom):
                    self.assertFalse(seen_other, path.name)
                elif not is_docstring(statement):
                    seen_other = True
                    self.assertIsInstance(statement, (ast.FunctionDef, ast.ClassDef, ast.Assign), path.name)

    def test_l4_l6_l7_no_barred_statements(self):
        for path, node in nodes(BARRED_NODES):
            self.fail(f"{path.name} {getattr(node, 'lineno', '')} {node}")
        for path, node in nodes(ast.Constant):
            self.assertNotIsInstance(node.value, (float, complex), path.name)
            if isinstance(node.value, str):
                self.assertNotIn("%", node.value, path.name)
        for path, node in nodes((ast.FunctionDef, ast.ClassDef)):
            for decorator in node.decorator_list:
                self.assertIn(ast.unparse(decorator).split(".")[-1], ("property", "setter", "staticmethod",
                                                                     "classmethod"), path.name)

    def test_l8_l15_l17_names(self):
        builtin = BARRED_NAMES | set(__builtins__ if isinstance(__builtins__, dict) else dir(__builtins__))
        for path, _, tree in sources():
            names = bound_names(tree)
            methods = [part.name for node in ast.walk(tree) if isinstance(node, ast.ClassDef) for part in node.body
                       if isinstance(part, ast.FunctionDef)]
            for name in names:
                self.assertRegex(name, r"^(_?[A-Za-z][A-Za-z0-9_]*|_|__[a-z]+__)$", path.name)
                if name not in methods:
                    self.assertNotIn(name, builtin, path.name)
            for node in ast.walk(tree):
                if isinstance(node, ast.Name) and isinstance(node.ctx, ast.Load) and node.id not in names:
                    self.assertIn(node.id, BUILTINS, f"{path.name} {node.lineno}")

    def test_l15_no_name_of_an_import_or_class_is_used_again(self):
        for path, _, tree in sources():
            taken = [alias.name for node in tree.body if isinstance(node, ast.ImportFrom) for alias in node.names]
            taken += [node.name for node in tree.body if isinstance(node, (ast.FunctionDef, ast.ClassDef))]
            self.assertEqual(len(taken), len(set(taken)), path.name)
            for node in ast.walk(tree):
                name = node.arg if isinstance(node, ast.arg) else getattr(node, "id", None)
                if isinstance(node, ast.arg) or isinstance(getattr(node, "ctx", None), ast.Store):
                    self.assertNotIn(name, taken, f"{path.name} {node.lineno}")

    def test_l17_words(self):
        for path, node in nodes((ast.Name, ast.Attribute, ast.arg, ast.Constant)):
            told = getattr(node, "id", None) or getattr(node, "attr", None) or getattr(node, "arg", None)
            self.assertNotIn(told, BARRED_WORDS, path.name)

    def test_l25_methods(self):
        own = {part.name for _, node in nodes(ast.ClassDef) for part in node.body if isinstance(part, ast.FunctionDef)}
        for path, node in nodes(ast.Call):
            if isinstance(node.func, ast.Attribute):
                self.assertIn(node.func.attr, METHODS | own, f"{path.name} {node.lineno}")

    def test_l18_l26_methods_and_attributes(self):
        own = {}
        for _, node in nodes(ast.ClassDef):
            methods = [part.name for part in node.body if isinstance(part, ast.FunctionDef)]
            attributes = {part.attr for part in ast.walk(node) if isinstance(part, ast.Attribute)
                          and isinstance(part.ctx, ast.Store) and ast.unparse(part.value) == "self"}
            self.assertEqual(len(methods), len(set(methods)), node.name)
            self.assertFalse(attributes & set(methods), node.name)
            own[node.name] = attributes | {name for name in methods if not name.startswith("__")}
        builtin = {name for kind in (str, int, list, dict, set, bytes) for name in dir(kind)}
        for name, found in own.items():
            self.assertFalse(found & builtin, name)
        for path, node in nodes(ast.Attribute):
            if ast.unparse(node.value) in own:
                self.fail(f"{path.name} {node.lineno} reads off a class")

    def test_l20_is(self):
        for path, node in nodes(ast.Compare):
            for sign, right in zip(node.ops, node.comparators):
                if isinstance(sign, (ast.Is, ast.IsNot)):
                    self.assertIn(ast.unparse(right), ("None", "True", "False"), f"{path.name} {node.lineno}")

    def test_l27_exponents(self):
        for path, node in nodes(ast.BinOp):
            if isinstance(node.op, ast.Pow):
                self.assertIsInstance(node.right, ast.Constant, f"{path.name} {node.lineno}")


if __name__ == "__main__":
    unittest.main()
