"""The code of the package keeps those rules of its language that are easily told; not all can be."""

import ast
import builtins
import os
import unittest

ROOT = os.path.dirname(os.path.dirname(os.path.abspath(__file__)))
PACKAGE = os.path.join(ROOT, "placehues")

BUILTINS = """len range enumerate zip min max sum abs sorted reversed int str bool bytes list tuple dict set frozenset
isinstance ord repr any all divmod pow getattr hasattr setattr iter next map Exception ValueError TypeError KeyError
IndexError LookupError ZeroDivisionError ArithmeticError OverflowError RuntimeError NotImplementedError
AttributeError StopIteration NotImplemented super property staticmethod classmethod""".split()

LIBRARY = {
    "heapq": "heappush heappop heapify heapreplace heappushpop".split(),
    "math": "gcd lcm isqrt comb perm factorial".split(),
    "itertools": "product combinations permutations chain accumulate pairwise islice zip_longest".split(),
    "collections": ["defaultdict"],
    "__future__": ["annotations"],
}

METHODS = """append clear copy count endswith extend find get index insert isalnum isalpha isdigit islower isspace
isupper items join keys ljust lower lstrip partition pop remove replace reverse rfind rjust rpartition rsplit rstrip
setdefault split splitlines startswith strip update upper values zfill bit_length title capitalize swapcase casefold
center expandtabs removeprefix removesuffix rindex isascii isdecimal isnumeric istitle isidentifier isprintable
translate sort add discard format from_iterable""".split()

BARRED = """register mro elements open input law version_info with_traceback add_note type typing typing_extensions
enum Enum IntEnum StrEnum Flag IntFlag Generic Protocol ABC ABCMeta namedtuple NamedTuple TypedDict TYPE_CHECKING
abstractmethod dataclass overload contextmanager attrgetter breakpoint builtins compile copyright credits delattr dir
eval exec exit gc globals help id importlib license locals methodcaller os quit vars""".split()

BARRED_NODES = (ast.Global, ast.AsyncFunctionDef, ast.AsyncFor, ast.AsyncWith, ast.Await, ast.Div, ast.Import)


def files():
    """The pairs of a file of the package, by its place below it, and what it holds."""
    found = []
    for folder, inner, names in os.walk(PACKAGE):
        inner[:] = sorted([own for own in inner if own != "__pycache__"])
        for name in sorted(names):
            path = os.path.join(folder, name)
            with open(path, encoding="utf-8") as file:
                found.append((os.path.relpath(path, PACKAGE), file.read()))
    return found


def bound_names(tree):
    """All names that a file gives a meaning."""
    for node in ast.walk(tree):
        if isinstance(node, ast.Name) and not isinstance(node.ctx, ast.Load):
            yield node.id
        elif isinstance(node, ast.arg):
            yield node.arg
        elif isinstance(node, (ast.FunctionDef, ast.ClassDef)):
            yield node.name
        elif isinstance(node, ast.alias):
            yield node.asname or node.name


def parsed():
    """The triples of a file, what it holds, and the tree of this."""
    return [(name, text, ast.parse(text)) for name, text in files()]


class Language(unittest.TestCase):
    def test_only_plain_files(self):
        for name, _, _ in parsed():
            with self.subTest(name):
                self.assertRegex(name, r"\A([a-z][a-z0-9_]*/)*(__init__|__main__|[a-z][a-z0-9_]*)\.py\Z")

    def test_signs_and_sizes(self):
        for name, text, tree in parsed():
            with self.subTest(name):
                lines = text.split("\n")
                self.assertLessEqual(len(lines), 400)
                self.assertLessEqual(max([len(line) for line in lines]), 120)
                self.assertTrue(all([own == "\n" or " " <= own <= "~" for own in text]))
                for node in ast.walk(tree):
                    if isinstance(node, ast.FunctionDef):
                        self.assertLessEqual(node.end_lineno - node.lineno + 1, 40)

    def test_imports(self):
        own = {name[:-3].replace(os.sep, "."): tree for name, _, tree in parsed()}
        defined = {name: {node.name for node in tree.body if hasattr(node, "name")} for name, tree in own.items()}
        values = {
            name: {node.targets[0].id for node in tree.body if isinstance(node, ast.Assign)}
            for name, tree in own.items()
        }
        for name, tree in own.items():
            for node in ast.walk(tree):
                if not isinstance(node, ast.ImportFrom):
                    continue
                self.assertIn(node, tree.body)
                self.assertEqual(node.level, 0)
                told = [alias.name for alias in node.names]
                if node.module.startswith("placehues."):
                    source = node.module[len("placehues."):]
                    self.assertLessEqual(set(told), defined[source] | values[source])
                else:
                    self.assertLessEqual(set(told), set(LIBRARY[node.module]))
                    self.assertTrue(all([alias.asname is None for alias in node.names]))

    def test_no_two_files_import_each_other(self):
        leads = {}
        for name, _, tree in parsed():
            modules = [node.module for node in ast.walk(tree) if isinstance(node, ast.ImportFrom)]
            leads["placehues." + name[:-3].replace(os.sep, ".")] = [own for own in modules if "placehues" in own]
        done = set()
        for _ in leads:
            done |= {name for name in leads if done.issuperset(leads[name])}
        self.assertEqual(sorted(done), sorted(leads))

    def test_statements_and_values(self):
        for name, text, tree in parsed():
            with self.subTest(name):
                self.assertNotIn("import *", text)
                for node in ast.walk(tree):
                    self.assertNotIsInstance(node, BARRED_NODES)
                    if isinstance(node, ast.Constant):
                        self.assertNotIsInstance(node.value, (float, complex))
                        self.assertFalse(isinstance(node.value, str) and "%" in node.value)
                for node in tree.body:
                    kinds = (ast.Expr, ast.ImportFrom, ast.FunctionDef, ast.ClassDef, ast.Assign)
                    self.assertIsInstance(node, kinds)

    def test_names(self):
        for name, _, tree in parsed():
            with self.subTest(name):
                for own in bound_names(tree):
                    double = own.startswith("__")
                    self.assertTrue(not double or own.endswith("__"), own)
                    self.assertTrue(double or own not in dir(builtins), own)
                    self.assertNotIn(own, BARRED)
                top = [node.name for node in tree.body if hasattr(node, "name")]
                self.assertEqual(len(top), len(set(top)))

    def test_builtins_and_methods(self):
        methods = set(METHODS) | {"__init__"}
        for _, _, tree in parsed():
            methods |= {node.name for node in ast.walk(tree) if isinstance(node, ast.FunctionDef)}
        for name, _, tree in parsed():
            with self.subTest(name):
                known = set(bound_names(tree)) | set(BUILTINS)
                for node in ast.walk(tree):
                    if isinstance(node, ast.Name) and isinstance(node.ctx, ast.Load):
                        self.assertIn(node.id, known)
                    if isinstance(node, ast.Call) and isinstance(node.func, ast.Attribute):
                        self.assertIn(node.func.attr, methods)

    def test_sets_are_not_iterated(self):
        for name, _, tree in parsed():
            with self.subTest(name):
                for node in ast.walk(tree):
                    if isinstance(node, (ast.For, ast.comprehension)):
                        own = node.iter
                        self.assertNotIsInstance(own, (ast.Set, ast.SetComp))
                        called = isinstance(own, ast.Call) and isinstance(own.func, ast.Name)
                        self.assertFalse(called and own.func.id in ("set", "frozenset"))

    def test_locals_do_not_hide_imports_and_classes(self):
        for name, _, tree in parsed():
            with self.subTest(name):
                top = {alias.name for node in tree.body if isinstance(node, ast.ImportFrom) for alias in node.names}
                top |= {node.name for node in tree.body if isinstance(node, ast.ClassDef)}
                for function in ast.walk(tree):
                    if isinstance(function, ast.FunctionDef):
                        body = list(bound_names(ast.Module(body=function.body, type_ignores=[])))
                        arguments = [own.arg for own in function.args.args]
                        self.assertEqual(top & set(body + arguments), set())


if __name__ == "__main__":
    unittest.main()
