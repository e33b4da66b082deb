"""The package's files against those rules of LANGUAGE.md that their text or tree shows."""

import ast
import builtins
import re
import unittest
from pathlib import Path

PACKAGE = Path(__file__).resolve().parent.parent / "reels"

# L8, less chr (L27) and the names that only __main__.py uses.
BUILTINS = set("""len range enumerate zip min max sum abs sorted reversed int str bool list tuple dict set
    frozenset isinstance ord repr any all divmod iter next super property staticmethod classmethod Exception
    ValueError TypeError KeyError IndexError LookupError ZeroDivisionError ArithmeticError OverflowError
    RuntimeError NotImplementedError AttributeError StopIteration NotImplemented""".split())
# L25, both lists.
METHODS = set("""append clear copy count endswith extend find get index insert isalnum isalpha isdigit islower
    isspace isupper items join keys ljust lower lstrip partition pop remove replace reverse rfind rjust
    rpartition rsplit rstrip setdefault split splitlines startswith strip update upper values zfill bit_length
    title capitalize swapcase casefold center expandtabs removeprefix removesuffix rindex isascii isdecimal
    isnumeric istitle isidentifier isprintable translate sort add discard""".split())
# L17, the words that occur nowhere, not in comments either.
BARRED = re.compile(r"""\b(type|typing|typing_extensions|enum|Enum|IntEnum|StrEnum|Flag|IntFlag|Generic|Protocol
    |ABC|ABCMeta|namedtuple|NamedTuple|TypedDict|TYPE_CHECKING|abstractmethod)\b
    |dataclass|overload|contextmanager""", re.VERBOSE)
# L17, the names that nothing has, attributes and keywords neither.
BARRED_NAMES = set("register mro elements open input law version_info with_traceback add_note".split())
ITERATED = {"zip", "enumerate", "reversed", "range", "iter"}
PLAIN = r"\A[A-Za-z][A-Za-z0-9_]*\Z"
DUNDERS = {"__init__"}
BANNED_NODES = (ast.Global, ast.AsyncFunctionDef, ast.AsyncFor, ast.AsyncWith, ast.Await, ast.Div, ast.MatMult,
                ast.Import)
TOP_NODES = (ast.ImportFrom, ast.FunctionDef, ast.ClassDef, ast.Assign)


def files():
    return sorted(PACKAGE.glob("*.py"))


def tree_of(path):
    return ast.parse(path.read_text(encoding="utf-8"))


def is_docstring(node):
    return isinstance(node, ast.Expr) and isinstance(node.value, ast.Constant) and isinstance(node.value.value, str)


def defined_at_top(tree):
    """Every name that a file binds at module level, imports left out, in order."""
    names = []
    for node in tree.body:
        if isinstance(node, (ast.FunctionDef, ast.ClassDef)):
            names.append(node.name)
        elif isinstance(node, ast.Assign):
            names.extend(target.id for target in node.targets)
    return names


def imported(tree):
    """Each imported name with its module."""
    return [(node.module, alias.name) for node in tree.body if isinstance(node, ast.ImportFrom)
            for alias in node.names]


def bound_in_functions(tree):
    """Parameters and local variables."""
    for function in ast.walk(tree):
        if isinstance(function, (ast.FunctionDef, ast.Lambda)):
            for node in ast.walk(function):
                if isinstance(node, ast.arg):
                    yield node.arg
                elif isinstance(node, ast.Name) and isinstance(node.ctx, ast.Store):
                    yield node.id


def all_names(tree):
    """Every name of any kind that a file uses."""
    for node in ast.walk(tree):
        for field in ("id", "attr", "arg", "name"):
            if isinstance(getattr(node, field, None), str):
                yield getattr(node, field)


def own_methods():
    return {method.name for path in files() for node in ast.walk(tree_of(path)) if isinstance(node, ast.ClassDef)
            for method in node.body if isinstance(method, ast.FunctionDef)}


class LanguageTest(unittest.TestCase):
    def each_file(self, check):
        self.assertTrue(files())
        for path in files():
            with self.subTest(file=path.name):
                check(path)

    def test_the_folder_holds_only_files_with_plain_names(self):
        held = [path.name for path in PACKAGE.iterdir() if path.name != "__pycache__"]
        self.assertIn("__init__.py", held)
        for name in held:
            self.assertRegex(name, r"\A([a-z][a-z0-9_]*|__init__)\.py\Z")

    def test_text_and_sizes(self):
        def check(path):
            text = path.read_text(encoding="utf-8")
            self.assertRegex(text, r"\A[ -~\n]*\Z")
            self.assertIsNone(BARRED.search(text))
            lines = text.split("\n")
            self.assertLessEqual(len(lines), 399)
            self.assertLessEqual(max(len(line) for line in lines), 120)
            for node in ast.walk(tree_of(path)):
                if isinstance(node, ast.FunctionDef):
                    self.assertLessEqual(node.end_lineno - node.lineno + 1, 40, node.name)

        self.each_file(check)

    def test_module_level(self):
        def check(path):
            tree = tree_of(path)
            for node in tree.body:
                self.assertTrue(is_docstring(node) or isinstance(node, TOP_NODES), ast.dump(node))
            names = defined_at_top(tree) + [name for module, name in imported(tree)]
            self.assertEqual(len(names), len(set(names)))

        self.each_file(check)

    def test_imports_name_the_file_that_defines_the_name(self):
        def check(path):
            for module, name in imported(tree_of(path)):
                self.assertRegex(module, r"\Areels\.[a-z_]+\Z")
                source = PACKAGE / (module.partition(".")[2] + ".py")
                self.assertIn(name, defined_at_top(tree_of(source)))

        self.each_file(check)

    def test_no_two_files_import_from_each_other(self):
        waiting = {f"reels.{path.stem}": {module for module, name in imported(tree_of(path))} for path in files()}
        while waiting:
            ready = [module for module in waiting if not waiting[module] & set(waiting)]
            self.assertTrue(ready, f"these import from each other: {sorted(waiting)}")
            for module in ready:
                del waiting[module]

    def test_no_barred_parts_of_the_language(self):
        def check(path):
            for node in ast.walk(tree_of(path)):
                self.assertNotIsInstance(node, BANNED_NODES)
                if isinstance(node, ast.Constant):
                    self.assertNotIsInstance(node.value, (float, complex))
                    self.assertNotIn("%", str(node.value))
                if isinstance(node, ast.Compare):
                    self.check_compare(node)
                if isinstance(node, ast.FunctionDef):
                    self.assertEqual(node.args.posonlyargs, [])

        self.each_file(check)

    def check_compare(self, node):
        for sign, right in zip(node.ops, node.comparators):
            if isinstance(sign, (ast.Is, ast.IsNot)):
                self.assertIsInstance(right, ast.Constant)
                self.assertIn(right.value, (None, True, False))

    def test_names(self):
        def check(path):
            tree = tree_of(path)
            classes = {node.name for node in tree.body if isinstance(node, ast.ClassDef)}
            outside = classes | {name for module, name in imported(tree)}
            for name in bound_in_functions(tree):
                self.assertRegex(name, PLAIN)
                self.assertNotIn(name, outside)
                self.assertFalse(hasattr(builtins, name), name)
            self.assertEqual(BARRED_NAMES & set(all_names(tree)), set())
            for name in defined_at_top(tree):
                self.assertRegex(name, PLAIN)
                self.assertFalse(hasattr(builtins, name), name)

        self.each_file(check)

    def test_only_the_allowed_builtins_and_methods(self):
        methods = METHODS | own_methods() | DUNDERS

        def check(path):
            for node in ast.walk(tree_of(path)):
                if isinstance(node, ast.Name) and hasattr(builtins, node.id):
                    self.assertIn(node.id, BUILTINS)
                if isinstance(node, ast.Call) and isinstance(node.func, ast.Attribute):
                    self.assertIn(node.func.attr, methods)

        self.each_file(check)

    def test_no_name_is_a_method_and_an_attribute(self):
        stored = {node.attr for path in files() for node in ast.walk(tree_of(path))
                  if isinstance(node, ast.Attribute) and isinstance(node.ctx, ast.Store)}
        self.assertEqual(stored & (own_methods() | METHODS), set())

    def test_what_is_iterated_at_once_is_not_stored(self):
        # L23: zip, enumerate, reversed and range stand behind the in of a loop, nowhere else here.
        def check(path):
            tree = tree_of(path)
            heads = [node.iter for node in ast.walk(tree) if isinstance(node, (ast.For, ast.comprehension))]
            for node in ast.walk(tree):
                if isinstance(node, ast.Call) and getattr(node.func, "id", "") in ITERATED:
                    self.assertIn(node, heads, ast.unparse(node))

        self.each_file(check)


if __name__ == "__main__":
    unittest.main()
