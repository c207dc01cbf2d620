"""The rules for the files of the package, as far as a short look at them can tell."""

import ast
import builtins
import re
import unittest
from pathlib import Path

PACKAGE = Path(__file__).resolve().parent.parent / "oddscall"

LIBRARY = {
    "heapq": {"heappush", "heappop", "heapify", "heapreplace", "heappushpop"},
    "math": {"gcd", "lcm", "isqrt", "comb", "perm", "factorial"},
    "itertools": {"product", "combinations", "permutations", "chain", "accumulate", "pairwise", "islice", "zip_longest"},
    "collections": {"defaultdict"},
}

BUILTINS = set("""
    len range enumerate zip min max sum abs sorted reversed int str bool bytes list tuple dict set frozenset isinstance ord
    repr any all divmod pow iter next map getattr hasattr setattr property staticmethod classmethod super NotImplemented
    Exception ValueError TypeError KeyError IndexError LookupError ZeroDivisionError ArithmeticError OverflowError
    RuntimeError NotImplementedError AttributeError StopIteration
""".split())

METHODS = set("""
    append clear copy count endswith extend find get index insert isalnum isalpha isdigit islower isspace isupper items join
    keys ljust lower lstrip partition pop remove replace reverse rfind rjust rpartition rsplit rstrip setdefault split
    splitlines startswith strip update upper values zfill bit_length add discard
""".split())

NOT_AS_ATTRIBUTES = set("""
    items keys values pop update append clear extend insert remove reverse setdefault sort args encode decode hex fromhex format
    as_integer_ratio bit_count conjugate from_bytes is_integer to_bytes
""".split())

NEVER = {"register", "mro", "elements", "open", "input", "law", "version_info", "with_traceback", "add_note"}

NOT_AS_NAMES = set("""
    attrgetter breakpoint builtins compile copyright credits delattr dir eval exec exit gc globals help id importlib license
    locals methodcaller os quit type vars sys
""".split())

WORDS = set("""
    type typing typing_extensions enum Enum IntEnum StrEnum Flag IntFlag Generic Protocol ABC ABCMeta namedtuple NamedTuple
    TypedDict TYPE_CHECKING abstractmethod
""".split())

SPECIAL = {"__init__", "__eq__", "__repr__", "__str__", "__len__", "__enter__", "__exit__", "__call__", "__iter__"}

NODES_THAT_ARE_OUT = (
    ast.AsyncFunctionDef, ast.AsyncFor, ast.AsyncWith, ast.Await, ast.Global, ast.Div, ast.MatMult, ast.Import)


def files():
    """Return the files of the package with their texts and trees."""
    found = []
    for path in sorted(PACKAGE.glob("*.py")):
        text = path.read_bytes().decode("ascii")
        found.append((path.name, text, ast.parse(text)))
    return found


def names_of_targets(tree):
    """Return all names that are assigned, and those of parameters."""
    found = set()
    for node in ast.walk(tree):
        if isinstance(node, ast.Name) and isinstance(node.ctx, ast.Store):
            found.add(node.id)
        elif isinstance(node, ast.arg):
            found.add(node.arg)
    return found


class LanguageTest(unittest.TestCase):
    def test_the_folder_contains_plain_files_only(self):
        for path in PACKAGE.iterdir():
            if path.name == "__pycache__":
                continue
            self.assertTrue(path.is_file(), path)
            self.assertRegex(path.name, r"^[a-z_][a-z0-9_]*\.py$")
        self.assertTrue((PACKAGE / "__init__.py").exists())

    def test_characters_and_sizes(self):
        for name, text, tree in files():
            lines = text.split("\n")
            self.assertLessEqual(len(lines) - 1, 399, name)
            for number, line in enumerate(lines):
                self.assertLessEqual(len(line), 120, (name, number))
                self.assertTrue(all([" " <= character <= "~" for character in line]), (name, number))
            for node in ast.walk(tree):
                if isinstance(node, ast.FunctionDef):
                    self.assertLessEqual(node.end_lineno - node.lineno + 1, 40, (name, node.name))

    def test_imports(self):
        own = {}
        for name, _, tree in files():
            own[name[:-3]] = {node.name for node in tree.body if isinstance(node, (ast.FunctionDef, ast.ClassDef))}
            own[name[:-3]] |= {target.id for node in tree.body if isinstance(node, ast.Assign) for target in node.targets}
        edges = {}
        for name, _, tree in files():
            head = True
            edges[name[:-3]] = []
            for number, node in enumerate(tree.body):
                if isinstance(node, ast.ImportFrom):
                    self.assertTrue(head, (name, node.lineno))
                    self.check_import(name, node, own)
                    edges[name[:-3]].append(node.module.removeprefix("oddscall."))
                elif number > 0:
                    head = False
            inner = [node for node in ast.walk(tree) if isinstance(node, ast.ImportFrom) and node not in tree.body]
            self.assertEqual(inner, [])
        self.check_no_circle(edges)

    def check_import(self, name, node, own):
        self.assertEqual(node.level, 0, (name, node.lineno))
        for alias in node.names:
            if node.module in LIBRARY:
                self.assertIn(alias.name, LIBRARY[node.module], (name, node.lineno))
                self.assertIsNone(alias.asname, (name, node.lineno))
            else:
                self.assertTrue(node.module.startswith("oddscall."), (name, node.lineno))
                self.assertIn(alias.name, own[node.module.removeprefix("oddscall.")], (name, node.lineno))

    def check_no_circle(self, edges):
        done = set()
        while len(done) < len(edges):
            ready = [name for name, others in edges.items()
                     if name not in done and all([other in done or other not in edges for other in others])]
            self.assertNotEqual(ready, [], "files import from each other")
            done.update(ready)

    def test_module_level(self):
        for name, _, tree in files():
            bound = []
            for node in tree.body:
                if isinstance(node, ast.Assign):
                    self.assertEqual([len(node.targets), isinstance(node.targets[0], ast.Name)], [1, True], name)
                    bound.append(node.targets[0].id)
                elif isinstance(node, ast.ImportFrom):
                    bound.extend([alias.asname or alias.name for alias in node.names])
                elif isinstance(node, (ast.FunctionDef, ast.ClassDef)):
                    bound.append(node.name)
                else:
                    self.assertTrue(isinstance(node, ast.Expr) and isinstance(node.value, ast.Constant), (name, node.lineno))
            self.assertEqual(len(bound), len(set(bound)), name)

    def test_what_is_not_in_the_language(self):
        for name, text, tree in files():
            for node in ast.walk(tree):
                self.assertFalse(isinstance(node, NODES_THAT_ARE_OUT), (name, getattr(node, "lineno", 0)))
                if isinstance(node, ast.Constant):
                    self.assertNotIsInstance(node.value, (float, complex), (name, node.lineno))
                    if isinstance(node.value, str):
                        self.assertNotIn("\x25", node.value, (name, node.lineno))
                if isinstance(node, ast.ExceptHandler):
                    self.assertIsNotNone(node.type, (name, node.lineno))
                if isinstance(node, (ast.FunctionDef, ast.ClassDef)):
                    self.assertEqual(node.decorator_list, [], (name, node.name))
                if isinstance(node, ast.Compare) and isinstance(node.ops[0], (ast.Is, ast.IsNot)):
                    self.assertIsInstance(node.comparators[0], ast.Constant, (name, node.lineno))
            outside = re.sub(r'"""[\s\S]*?"""|#.*', "", text)
            self.assertEqual(set(re.findall(r"\w+", outside)) & WORDS, set(), name)

    def test_what_is_iterated_at_once(self):
        for name, _, tree in files():
            for node in ast.walk(tree):
                # A range, a zip or a view is not kept here, and not passed on to functions of the package.
                if isinstance(node, (ast.Assign, ast.Return)) and isinstance(node.value, ast.Call):
                    self.assertFalse(self.is_lazy(node.value), (name, node.lineno))
                if isinstance(node, ast.Call) and isinstance(node.func, ast.Name) and node.func.id not in BUILTINS:
                    self.assertFalse(any([self.is_lazy(argument) for argument in node.args]), (name, node.lineno))

    def test_stars_in_calls(self):
        for name, _, tree in files():
            for node in ast.walk(tree):
                if isinstance(node, ast.Call):
                    stars = [argument.value for argument in node.args if isinstance(argument, ast.Starred)]
                    self.assertTrue(all([isinstance(value, (ast.Name, ast.Attribute)) for value in stars]), (name, node.lineno))

    def test_loops_do_not_change_what_they_go_over(self):
        changing = {"append", "pop", "extend", "insert", "remove", "clear", "setdefault", "update", "add", "discard", "sort", "reverse"}
        for name, _, tree in files():
            for loop in [node for node in ast.walk(tree) if isinstance(node, ast.For)]:
                names = {node.id for node in ast.walk(loop.iter) if isinstance(node, ast.Name)}
                for node in ast.walk(ast.Module(loop.body, [])):
                    changed = None
                    if isinstance(node, ast.Call) and isinstance(node.func, ast.Attribute) and node.func.attr in changing:
                        changed = node.func.value
                    elif isinstance(node, ast.Subscript) and not isinstance(node.ctx, ast.Load):
                        changed = node.value
                    while isinstance(changed, ast.Subscript):
                        changed = changed.value
                    if isinstance(changed, ast.Name):
                        self.assertNotIn(changed.id, names, (name, node.lineno))

    def is_lazy(self, node):
        if not isinstance(node, ast.Call):
            return False
        if isinstance(node.func, ast.Name):
            return node.func.id in {"range", "zip", "enumerate", "reversed", "map", "iter"}
        return isinstance(node.func, ast.Attribute) and node.func.attr in {"items", "keys", "values"} and not node.args

    def test_names(self):
        every_method = set()
        for _, _, tree in files():
            every_method |= {node.name for node in ast.walk(tree) if isinstance(node, ast.FunctionDef)}
        python = {word for word in dir(builtins) if not word.startswith("_")}
        for name, _, tree in files():
            imports = {alias.name for node in tree.body if isinstance(node, ast.ImportFrom) for alias in node.names}
            classes = {node.name for node in tree.body if isinstance(node, ast.ClassDef)}
            stored = names_of_targets(tree)
            self.assertEqual(stored & (imports | classes), set(), name)
            functions = {node.name for node in tree.body if isinstance(node, (ast.FunctionDef, ast.ClassDef))}
            self.assertEqual((stored | functions) & (python | NOT_AS_NAMES | NEVER), set(), name)
            for node in ast.walk(tree):
                if isinstance(node, ast.Name) and isinstance(node.ctx, ast.Load) and node.id in python:
                    self.assertIn(node.id, BUILTINS, (name, node.lineno))
                if isinstance(node, ast.Call) and isinstance(node.func, ast.Attribute):
                    self.assertIn(node.func.attr, METHODS | every_method, (name, node.lineno))
                if isinstance(node, ast.Attribute):
                    self.assertNotIn(node.attr, NEVER | {"args", "format", "format_map"}, (name, node.lineno))
                    if isinstance(node.ctx, ast.Store):
                        self.assertNotIn(node.attr, NOT_AS_ATTRIBUTES, (name, node.lineno))
                word = getattr(node, "name", None) or getattr(node, "id", None) or getattr(node, "attr", None)
                if isinstance(word, str) and word.startswith("__"):
                    self.assertIn(word, SPECIAL, (name, node.lineno))


if __name__ == "__main__":
    unittest.main()
