"""The package keeps to the part of Python that it is held to, as far as its form can show that."""

import ast
import builtins
import os
import re
import unittest

ROOT = os.path.dirname(os.path.dirname(os.path.abspath(__file__)))
PACKAGE = os.path.join(ROOT, "closurize")

ERRORS = """Exception ValueError TypeError KeyError IndexError LookupError ZeroDivisionError ArithmeticError
OverflowError RuntimeError NotImplementedError AttributeError StopIteration""".split()
BUILTINS = """len range enumerate zip min max sum abs sorted reversed int str bool list tuple dict set frozenset
isinstance ord repr any all divmod""".split() + ERRORS
METHODS = """append clear copy count endswith extend find get index insert isalnum isalpha isdigit islower isspace
isupper items join keys ljust lower lstrip partition pop remove replace reverse rfind rjust rpartition rsplit rstrip
setdefault split splitlines startswith strip update upper values zfill bit_length""".split()
DUNDERS = ["__init__", "__eq__", "__repr__", "__str__", "__len__"]
NO_NAMES = """register mro elements open input version_info with_traceback add_note attrgetter breakpoint builtins
compile copyright credits delattr dir eval exec exit gc getattr globals hasattr help id importlib license locals
methodcaller os quit setattr super type vars sys format format_map chr print""".split()
NO_WORDS = """type typing typing_extensions enum Enum IntEnum StrEnum Flag IntFlag Generic Protocol ABC ABCMeta
namedtuple NamedTuple TypedDict TYPE_CHECKING abstractmethod""".split()
NO_VALUES = """items keys values pop update append clear extend insert remove reverse setdefault sort args encode
format""".split()
NO_FILES = ["test", "tests", "testing", "site", "conftest", "sitecustomize", "usercustomize"] + NO_WORDS
WALKED = ["zip", "enumerate", "reversed", "range"]
NODES = (
    ast.Module, ast.ImportFrom, ast.alias, ast.FunctionDef, ast.arguments, ast.arg, ast.ClassDef, ast.Assign, ast.If,
    ast.While, ast.For, ast.Return, ast.Break, ast.Continue, ast.Pass, ast.Raise, ast.Try, ast.ExceptHandler, ast.Expr,
    ast.Constant, ast.List, ast.Tuple, ast.Dict, ast.BinOp, ast.UnaryOp, ast.BoolOp, ast.Compare, ast.IfExp, ast.Call,
    ast.Attribute, ast.Subscript, ast.Slice, ast.ListComp, ast.comprehension, ast.Name, ast.Lambda, ast.AugAssign,
    ast.expr_context, ast.operator, ast.unaryop, ast.boolop, ast.cmpop)
NO_NODES = (ast.Div, ast.MatMult)
TOP = (ast.ImportFrom, ast.FunctionDef, ast.ClassDef, ast.Assign)


def modules():
    found = {}
    for name in sorted(os.listdir(PACKAGE)):
        if name != "__pycache__":
            with open(os.path.join(PACKAGE, name), encoding="utf-8", newline="") as file:
                found[name] = file.read()
    return found


def trees():
    return {name: ast.parse(text) for name, text in modules().items()}


def all_nodes():
    for name, tree in trees().items():
        for node in ast.walk(tree):
            yield name, node


def classes():
    return [node for _, node in all_nodes() if isinstance(node, ast.ClassDef)]


def own_methods():
    return {f.name for c in classes() for f in c.body if isinstance(f, ast.FunctionDef)}


def stored_attributes():
    return {n.attr for _, n in all_nodes() if isinstance(n, ast.Attribute) and isinstance(n.ctx, ast.Store)}


def is_docstring(node):
    return isinstance(node, ast.Expr) and isinstance(node.value, ast.Constant) and isinstance(node.value.value, str)


def top_names(tree):
    names = []
    for node in tree.body:
        if isinstance(node, (ast.FunctionDef, ast.ClassDef)):
            names.append(node.name)
        elif isinstance(node, ast.Assign):
            names.append(node.targets[0].id)
        elif isinstance(node, ast.ImportFrom):
            names += [alias.name for alias in node.names]
    return names


class Files(unittest.TestCase):
    def test_names(self):
        self.assertIn("__init__.py", modules())
        for name in modules():
            stem = name[:-3]
            self.assertRegex(name, r"\A([a-z][a-z0-9_]*|__init__)\.py\Z")
            self.assertFalse(stem in NO_FILES or stem.startswith("test_"), name)
            self.assertTrue(stem == "__init__" or not hasattr(builtins, stem), name)

    def test_signs_and_sizes(self):
        for name, text in modules().items():
            self.assertRegex(text, r"\A[ -~\n]*\Z", name)
            lines = text.split("\n")
            self.assertLessEqual(len(lines), 400, name)
            self.assertLessEqual(max(len(line) for line in lines), 120, name)
        for name, node in all_nodes():
            if isinstance(node, ast.FunctionDef):
                self.assertLessEqual(node.end_lineno - node.lineno + 1, 40, (name, node.name))

    def test_words(self):
        for name, text in modules().items():
            for word in NO_WORDS:
                self.assertIsNone(re.search(r"\b" + word + r"\b", text), (name, word))
            for word in ("dataclass", "overload", "contextmanager"):
                self.assertNotIn(word, text, name)

    def test_texts(self):
        for name, node in all_nodes():
            if isinstance(node, ast.Constant):
                self.assertIn(type(node.value), (int, str, bool, type(None)), name)
                self.assertFalse(isinstance(node.value, str) and "%" in node.value, name)


class Tops(unittest.TestCase):
    def test_what_stands_there(self):
        for name, tree in trees().items():
            for place, node in enumerate(tree.body):
                self.assertTrue(isinstance(node, TOP) or (place == 0 and is_docstring(node)), (name, node.lineno))
                if isinstance(node, ast.Assign):
                    ast.literal_eval(node.value)
                    for inner in ast.walk(node.value):
                        self.assertTrue(inner is node.value or not isinstance(inner, (ast.List, ast.Dict)), name)
            names = top_names(tree)
            self.assertEqual(len(names), len(set(names)), name)

    def test_imports(self):
        found = trees()
        for name, tree in found.items():
            for node in ast.walk(tree):
                if isinstance(node, ast.ImportFrom):
                    self.assertIn(node, tree.body)
                    self.assertEqual(node.level, 0)
                    self.assertRegex(node.module, r"\Aclosurize\.[a-z_]+\Z")
                    origin = found[node.module.split(".")[1] + ".py"]
                    defined = [n for stmt in origin.body if not isinstance(stmt, ast.ImportFrom)
                               for n in top_names(ast.Module([stmt], []))]
                    for alias in node.names:
                        self.assertIsNone(alias.asname)
                        self.assertIn(alias.name, defined, name)

    def test_no_two_files_draw_from_one_another(self):
        drawn = {}
        for name, tree in trees().items():
            drawn[name] = {n.module.split(".")[1] + ".py" for n in tree.body if isinstance(n, ast.ImportFrom)}
        self.assertEqual(drawn["__init__.py"], set())
        done = set()
        while len(done) < len(drawn):
            ready = {name for name in drawn if name not in done and drawn[name] <= done}
            self.assertTrue(ready, "files draw from one another")
            done |= ready

    def test_lists_and_dicts_of_the_top_are_only_read(self):
        kept = {n.targets[0].id for tree in trees().values() for n in tree.body
                if isinstance(n, ast.Assign) and isinstance(n.value, (ast.List, ast.Dict))}
        for name, tree in trees().items():
            fine = set()
            for node in ast.walk(tree):
                if isinstance(node, ast.Subscript) and isinstance(node.ctx, ast.Load):
                    fine.add(node.value)
                elif isinstance(node, ast.Compare):
                    fine.update(node.comparators)
                elif isinstance(node, ast.Assign) and node in tree.body:
                    fine.update(node.targets)
            for node in ast.walk(tree):
                if isinstance(node, ast.Name) and node.id in kept:
                    self.assertIn(node, fine, (name, node.id, node.lineno))


class Forms(unittest.TestCase):
    def test_only_these(self):
        for name, node in all_nodes():
            line = (name, getattr(node, "lineno", 0), node)
            self.assertIsInstance(node, NODES, line)
            self.assertNotIsInstance(node, NO_NODES, line)

    def test_statements(self):
        for name, node in all_nodes():
            line = (name, getattr(node, "lineno", 0))
            if isinstance(node, (ast.For, ast.While)):
                self.assertEqual(node.orelse, [], line)
            if isinstance(node, ast.Assign):
                self.assertEqual(len(node.targets), 1, line)
            if isinstance(node, ast.Expr):
                self.assertTrue(isinstance(node.value, ast.Call) or is_docstring(node), line)
            if isinstance(node, ast.Try):
                self.assertEqual(node.finalbody, [], line)
            if isinstance(node, ast.ExceptHandler):
                for taken in node.type.elts if isinstance(node.type, ast.Tuple) else [node.type]:
                    self.assertIn(taken.id, [c.name for c in classes()], line)
            if isinstance(node, ast.Compare) and isinstance(node.ops[0], (ast.Is, ast.IsNot)):
                self.assertIsInstance(node.comparators[0], ast.Constant, line)
            if isinstance(node, ast.ListComp):
                self.assertEqual(len(node.generators), 1, line)
                self.assertLessEqual(len(node.generators[0].ifs), 1, line)

    def test_functions(self):
        for name, node in all_nodes():
            if isinstance(node, ast.FunctionDef):
                given = node.args
                self.assertFalse(given.vararg or given.kwarg or given.kwonlyargs or given.posonlyargs, node.name)
                self.assertFalse(node.decorator_list or node.returns, node.name)
                self.assertFalse([arg for arg in given.args if arg.annotation], node.name)

    def test_classes(self):
        own = [c.name for c in classes()]
        self.assertEqual(len(own), len(set(own)))
        for c in classes():
            self.assertFalse(c.decorator_list or c.keywords or len(c.bases) > 1, c.name)
            for base in c.bases:
                self.assertIn(base.id, own + ERRORS)
            for node in c.body:
                self.assertTrue(isinstance(node, ast.FunctionDef) or is_docstring(node), c.name)
            names = [f.name for f in c.body if isinstance(f, ast.FunctionDef)]
            self.assertEqual(len(names), len(set(names)), c.name)

    def test_what_is_walked_stands_on_the_spot(self):
        for name, tree in trees().items():
            fine = set()
            for node in ast.walk(tree):
                if isinstance(node, (ast.For, ast.comprehension)):
                    fine.add(node.iter)
                elif isinstance(node, ast.Call) and isinstance(node.func, ast.Name) and node.args:
                    if node.func.id in ("list", "tuple", "dict", "sorted", "sum", "any", "all", "enumerate", "zip"):
                        fine.add(node.args[0])
            for node in ast.walk(tree):
                if isinstance(node, ast.Call) and isinstance(node.func, ast.Name) and node.func.id in WALKED:
                    self.assertIn(node, fine, (name, node.lineno))


class Names(unittest.TestCase):
    def test_pythons_own(self):
        for name, tree in trees().items():
            own = set(top_names(tree))
            for node in ast.walk(tree):
                if isinstance(node, ast.Name) and hasattr(builtins, node.id):
                    self.assertIn(node.id, BUILTINS, (name, node.lineno))
                    self.assertIsInstance(node.ctx, ast.Load, (name, node.lineno))
                if isinstance(node, ast.Name) and isinstance(node.ctx, ast.Store) and node.col_offset > 0:
                    self.assertNotIn(node.id, own, (name, node.lineno))
                if isinstance(node, ast.arg):
                    self.assertFalse(hasattr(builtins, node.arg) or node.arg in own, (name, node.arg))

    def test_none_that_is_not_used(self):
        for name, node in all_nodes():
            for word in (getattr(node, "id", None), getattr(node, "attr", None), getattr(node, "arg", None),
                         getattr(node, "name", None)):
                if isinstance(word, str):
                    self.assertNotIn(word, NO_NAMES, name)
                    self.assertTrue(word in DUNDERS or re.match(r"\A[A-Za-z][A-Za-z0-9_]*\Z", word), (name, word))

    def test_methods_and_values(self):
        methods = own_methods()
        stored = stored_attributes()
        self.assertEqual(methods & stored, set())
        self.assertEqual(stored & set(NO_VALUES), set())
        pythons = set()
        for kind in (str, int, list, dict, set, frozenset, tuple, bytes, bytearray, bool):
            pythons.update(word for word in dir(kind) if not word.startswith("__"))
        self.assertEqual((methods | stored) & pythons, set())
        for name, node in all_nodes():
            if isinstance(node, ast.Attribute) and node.attr not in stored | methods:
                self.assertIn(node.attr, METHODS, (name, node.lineno))

    def test_methods_are_called_where_they_stand(self):
        methods = own_methods() | set(METHODS)
        for name, tree in trees().items():
            called = {node.func for node in ast.walk(tree) if isinstance(node, ast.Call)}
            for node in ast.walk(tree):
                if isinstance(node, ast.Attribute) and node.attr in methods:
                    self.assertIn(node, called, (name, node.lineno))


if __name__ == "__main__":
    unittest.main()
