"""The rules of the language that can be seen file by file."""

import ast
import builtins
import os
import re
import unittest

ROOT = os.path.dirname(os.path.dirname(os.path.abspath(__file__)))
PACKAGE = os.path.join(ROOT, "hewstream")

BUILTINS = """len range enumerate zip min max sum abs sorted reversed int str bool bytes list tuple dict set
isinstance ord repr any all divmod ValueError KeyError heappush heappop heapify""".split()
METHODS = """append clear copy count endswith extend find get index insert isalnum isalpha isdigit islower isspace
isupper items join keys ljust lower lstrip partition pop remove replace reverse rfind rjust rpartition rsplit rstrip
setdefault split splitlines startswith strip update upper values zfill bit_length add discard sort __init__""".split()
LIBRARY = {"heapq": ["heappush", "heappop", "heapify", "heapreplace", "heappushpop"]}
BARRED = """register mro elements open input law version_info with_traceback add_note attrgetter breakpoint builtins
compile copyright credits delattr dir eval exec exit gc globals help id importlib license locals methodcaller os quit
super type vars sys chr hash map next iter round format print""".split()
BARRED_WORDS = """typing typing_extensions enum Enum IntEnum StrEnum Flag IntFlag Generic Protocol ABC ABCMeta
namedtuple NamedTuple TypedDict TYPE_CHECKING abstractmethod""".split()
BARRED_PARTS = ["dataclass", "overload", "contextmanager", "_wall"]
NODES_BARRED = (ast.Global, ast.AsyncFunctionDef, ast.Await, ast.Div, ast.MatMult, ast.GeneratorExp, ast.Import,
                ast.Yield, ast.YieldFrom, ast.JoinedStr)
TOP_LEVEL = (ast.ImportFrom, ast.FunctionDef, ast.ClassDef, ast.Assign, ast.Expr)


def package_files():
    return [name for name in sorted(os.listdir(PACKAGE)) if name != "__pycache__"]


def text_of(name):
    with open(os.path.join(PACKAGE, name), encoding="utf-8", newline="") as file:
        return file.read()


def trees():
    return {name: ast.parse(text_of(name)) for name in package_files()}


def bound_names(node):
    """Parameters and local variables of a function."""
    names = [arg.arg for arg in node.args.args]
    names.extend(inner.name for inner in ast.walk(node) if isinstance(inner, ast.ExceptHandler) and inner.name)
    return names + [inner.id for inner in ast.walk(node)
                    if isinstance(inner, ast.Name) and isinstance(inner.ctx, ast.Store)]


def defined_names(tree):
    names = []
    for node in tree.body:
        if isinstance(node, (ast.FunctionDef, ast.ClassDef)):
            names.append(node.name)
        elif isinstance(node, ast.Assign):
            names.extend(target.id for target in node.targets)
        elif isinstance(node, ast.ImportFrom):
            names.extend(alias.asname or alias.name for alias in node.names)
    return names


class LanguageTest(unittest.TestCase):
    def test_files(self):
        for name in package_files():
            self.assertRegex(name, r"\A[a-z_]+\.py\Z")
            text = text_of(name)
            lines = text.split("\n")
            self.assertLessEqual(len(lines), 399, name)
            self.assertLessEqual(max(len(line) for line in lines), 120, name)
            self.assertTrue(all(sign == "\n" or " " <= sign <= "~" for sign in text), name)
            self.assertEqual([word for word in BARRED_WORDS if re.search(r"\b" + word + r"\b", text)], [], name)
            self.assertEqual([part for part in BARRED_PARTS if part in text], [], name)

    def test_functions_are_small(self):
        for name, tree in trees().items():
            for node in ast.walk(tree):
                if isinstance(node, ast.FunctionDef):
                    self.assertLessEqual(node.end_lineno - node.lineno + 1, 40, (name, node.name))
                    self.assertEqual(node.decorator_list, [], (name, node.name))

    def test_top_level(self):
        for name, tree in trees().items():
            names = defined_names(tree)
            self.assertEqual(len(names), len(set(names)), name)
            for node in tree.body:
                self.assertIsInstance(node, TOP_LEVEL, name)
                if isinstance(node, ast.Expr):
                    self.assertIsInstance(node.value, ast.Constant, name)
                if isinstance(node, ast.Assign):
                    self.assertFalse([part for part in ast.walk(node.value) if isinstance(part, ast.Call)], name)

    def test_names_of_builtins(self):
        for name, tree in trees().items():
            names = defined_names(tree)
            for node in ast.walk(tree):
                if isinstance(node, ast.FunctionDef):
                    names.extend(bound_names(node))
            self.assertEqual(sorted(set(names) & set(dir(builtins))), [], name)

    def test_is_only_with_none(self):
        for name, tree in trees().items():
            for node in ast.walk(tree):
                if isinstance(node, ast.Compare) and any(isinstance(sign, (ast.Is, ast.IsNot)) for sign in node.ops):
                    self.assertEqual([part.value for part in node.comparators], [None], (name, node.lineno))

    def test_attributes_and_methods(self):
        taken = set()
        for kind in (str, int, list, dict, set, bytes):
            taken.update(dir(kind))
        for name, tree in trees().items():
            for node in tree.body:
                if isinstance(node, ast.ClassDef):
                    methods = {part.name for part in node.body if isinstance(part, ast.FunctionDef)}
                    attributes = {part.attr for part in ast.walk(node) if isinstance(part, ast.Attribute)
                                  and isinstance(part.ctx, ast.Store)}
                    self.assertEqual(methods & attributes, set(), (name, node.name))
                    self.assertEqual((methods - {"__init__"}) & taken, set(), (name, node.name))
                    self.assertEqual(attributes & (taken - {"index", "count"}), set(), (name, node.name))

    def test_sets_stand_in_sorted_len_and_in(self):
        for name, tree in trees().items():
            around = {part: node for node in ast.walk(tree) for part in ast.iter_child_nodes(node)}
            for node in ast.walk(tree):
                if isinstance(node, ast.Call) and isinstance(node.func, ast.Name) and node.func.id == "set":
                    outer = around[node]
                    called = isinstance(outer, ast.Call) and outer.func.id in ("sorted", "len")
                    self.assertTrue(called or isinstance(outer, ast.Assign), (name, node.lineno))
                self.assertNotIsInstance(node, (ast.Set, ast.SetComp), (name, getattr(node, "lineno", 0)))

    def test_imports_are_used(self):
        for name, tree in trees().items():
            used = {node.id for node in ast.walk(tree) if isinstance(node, ast.Name)}
            for node in tree.body:
                if isinstance(node, ast.ImportFrom):
                    self.assertEqual([alias.name for alias in node.names if alias.name not in used], [], name)

    def test_imports(self):
        found = trees()
        needs = {}
        for name, tree in found.items():
            needs[name] = []
            for node in tree.body:
                if isinstance(node, ast.ImportFrom):
                    self.check_import(name, node, found, needs)
        while needs:
            free = [name for name in needs if not [other for other in needs[name] if other in needs]]
            self.assertTrue(free, "files import each other: " + " ".join(needs))
            needs = {name: needs[name] for name in needs if name not in free}

    def check_import(self, name, node, found, needs):
        self.assertEqual(node.level, 0, name)
        if node.module in LIBRARY:
            self.assertFalse([alias for alias in node.names if alias.name not in LIBRARY[node.module]], name)
            return
        folder, _, file = node.module.partition(".")
        self.assertEqual(folder, "hewstream", name)
        needs[name].append(file + ".py")
        own = [part.name for part in found[file + ".py"].body if isinstance(part, (ast.FunctionDef, ast.ClassDef))]
        own.extend(target.id for part in found[file + ".py"].body if isinstance(part, ast.Assign)
                   for target in part.targets)
        for alias in node.names:
            self.assertIn(alias.name, own, (name, node.module))
            self.assertIsNone(alias.asname, name)

    def test_nodes_and_constants(self):
        for name, tree in trees().items():
            for node in ast.walk(tree):
                self.assertNotIsInstance(node, NODES_BARRED, (name, getattr(node, "lineno", 0)))
                if isinstance(node, ast.Constant):
                    self.assertNotIsInstance(node.value, (float, complex), (name, node.lineno))
                    self.assertNotIn("%", str(node.value), (name, node.lineno))

    def test_names(self):
        found = trees()
        methods = METHODS + [node.name for tree in found.values() for top in tree.body
                             if isinstance(top, ast.ClassDef) for node in top.body if hasattr(node, "name")]
        for name, tree in found.items():
            known = BUILTINS + defined_names(tree)
            taken = [node.name for node in tree.body if isinstance(node, ast.ClassDef)] + [
                alias.name for node in tree.body if isinstance(node, ast.ImportFrom) for alias in node.names]
            for top in ast.walk(tree):
                if isinstance(top, ast.FunctionDef):
                    bound = bound_names(top)
                    for word in bound:
                        self.assertNotIn(word, BARRED + BUILTINS + taken, (name, top.name))
                    for node in ast.walk(top):
                        self.check_name(name, top, node, known + bound, methods)

    def check_name(self, name, top, node, known, methods):
        where = (name, top.name, getattr(node, "lineno", 0))
        if isinstance(node, ast.Name) and isinstance(node.ctx, ast.Load):
            self.assertIn(node.id, known, where)
            self.assertNotEqual(node.id, "_", where)
        if isinstance(node, ast.Call) and isinstance(node.func, ast.Attribute):
            self.assertIn(node.func.attr, methods, where)
        if isinstance(node, ast.Attribute):
            self.assertNotIn(node.attr, ["elements", "open", "input", "register", "law", "mro"], where)


if __name__ == "__main__":
    unittest.main()
