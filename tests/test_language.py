"""The rules of ../shared/LANGUAGE.md that are easy to see in the files of the package."""

import ast
import builtins
import os
import re
import unittest
import warnings

FOLDER = os.path.join(os.path.dirname(os.path.abspath(__file__)), os.pardir, "keepsort")

BARRED_WORDS = (
    "type typing typing_extensions enum Enum IntEnum StrEnum Flag IntFlag Generic Protocol ABC ABCMeta "
    "namedtuple NamedTuple TypedDict TYPE_CHECKING abstractmethod"
).split()
BARRED_PARTS = ("dataclass", "overload", "contextmanager")
BARRED_NAMES = (
    "register mro elements open input version_info with_traceback add_note attrgetter breakpoint builtins compile "
    "copyright credits delattr dir eval exec exit gc getattr globals hasattr help id importlib license locals "
    "methodcaller os quit setattr super vars sys"
).split()
BUILTINS = (
    "len range enumerate zip min max sum abs sorted reversed int str bool bytes list tuple dict set isinstance ord repr "
    "any all divmod Exception ValueError TypeError KeyError IndexError LookupError ZeroDivisionError ArithmeticError "
    "OverflowError RuntimeError NotImplementedError StopIteration NotImplemented"
).split()
METHODS = (
    "append clear copy count endswith extend find get index insert isalnum isalpha isdigit islower isspace isupper "
    "items join keys ljust lower lstrip partition pop remove replace reverse rfind rjust rpartition rsplit rstrip "
    "setdefault split splitlines startswith strip update upper values zfill bit_length title capitalize swapcase "
    "casefold center expandtabs removeprefix removesuffix rindex isascii isdecimal isnumeric istitle isidentifier "
    "isprintable add discard"
).split()
AT_ONCE = ("zip", "enumerate", "range", "reversed", "items", "keys", "values")
TAKERS = "list tuple dict sorted sum any all enumerate zip min max len reversed join".split()
DOUBLE_METHODS = ("__init__", "__eq__", "__repr__", "__str__", "__len__")
FREE_ATTRIBUTES = "count index title find get join lower upper split strip copy add".split()


def read_files():
    found = {}
    for name in sorted(os.listdir(FOLDER)):
        if name != "__pycache__":
            with open(os.path.join(FOLDER, name), "rb") as held:
                found[name] = held.read()
    return found


def called_name(node):
    """The name of the function or method that a call calls."""
    return getattr(node.func, "id", getattr(node.func, "attr", None))


def bound_names(tree):
    """All names that are bound inside functions."""
    for node in ast.walk(tree):
        if isinstance(node, ast.arg):
            yield node.arg
        elif isinstance(node, ast.Name) and not isinstance(node.ctx, ast.Load):
            yield node.id
        elif isinstance(node, ast.ExceptHandler) and node.name:
            yield node.name


class LanguageTest(unittest.TestCase):
    def setUp(self):
        self.files = {name: data.decode("ascii") for name, data in read_files().items()}

    def trees(self):
        return {name: ast.parse(text) for name, text in self.files.items()}

    def test_only_python_files_with_plain_names(self):
        self.assertIn("__init__.py", self.files)
        for name in self.files:
            self.assertRegex(name, r"\A[a-z0-9_]+\.py\Z")

    def test_characters(self):
        for name, text in self.files.items():
            self.assertIsNone(re.search(r"[^ -~\n]", text), name)

    def test_sizes(self):
        for name, text in self.files.items():
            self.assertLessEqual(len(text.splitlines()), 400, name)
            self.assertLessEqual(max(len(line) for line in text.splitlines()), 120, name)
        for name, tree in self.trees().items():
            for node in ast.walk(tree):
                if isinstance(node, ast.FunctionDef):
                    self.assertLessEqual(node.end_lineno - node.lineno + 1, 40, (name, node.name))

    def test_words(self):
        for name, text in self.files.items():
            words = re.findall(r"\w+", text)
            self.assertEqual([word for word in words if word in BARRED_WORDS], [], name)
            self.assertEqual([part for part in BARRED_PARTS if part in text], [], name)

    def test_imports_come_from_the_package(self):
        for name, tree in self.trees().items():
            for node in ast.walk(tree):
                if name != "__main__.py":
                    self.assertNotIsInstance(node, ast.Import, name)
                if isinstance(node, ast.ImportFrom) and node.module != "__future__":
                    self.assertEqual(node.level, 0, name)
                    self.assertTrue(node.module.startswith("keepsort."), name)
                    self.assertNotIn("*", [each.name for each in node.names], name)

    def test_imports_name_the_defining_file_and_make_no_circle(self):
        defined = {name: self.defined_names(tree) for name, tree in self.trees().items()}
        above = {}
        for name, tree in self.trees().items():
            above[name] = set()
            for node in tree.body:
                if isinstance(node, ast.ImportFrom) and node.module != "__future__":
                    source = node.module.split(".", 1)[1] + ".py"
                    above[name].add(source)
                    for each in node.names:
                        self.assertIn(each.name, defined[source], (name, source))
        while above:
            free = [name for name in above if not above[name] & set(above)]
            self.assertNotEqual(free, [], above)
            for name in free:
                del above[name]

    def defined_names(self, tree):
        found = [node.name for node in tree.body if isinstance(node, (ast.FunctionDef, ast.ClassDef))]
        for node in tree.body:
            if isinstance(node, ast.Assign):
                found += [target.id for target in node.targets]
        return found

    def test_module_level(self):
        for name, tree in self.trees().items():
            for node in tree.body:
                if isinstance(node, ast.Expr):
                    self.assertIsInstance(node.value, ast.Constant, name)
                else:
                    self.assertIsInstance(node, (ast.ImportFrom, ast.FunctionDef, ast.ClassDef, ast.Assign), name)
            names = self.defined_names(tree)
            self.assertEqual(len(names), len(set(names)), name)

    def test_nodes(self):
        barred = (ast.Global, ast.AsyncFunctionDef, ast.AsyncFor, ast.AsyncWith, ast.Await, ast.Div, ast.MatMult,
                  ast.GeneratorExp)
        for name, tree in self.trees().items():
            for node in ast.walk(tree):
                self.assertNotIsInstance(node, barred, (name, getattr(node, "lineno", None)))
                if isinstance(node, ast.Constant):
                    self.assertNotIsInstance(node.value, (float, complex), (name, node.lineno))
                    if isinstance(node.value, str):
                        self.assertNotIn("%", node.value, (name, node.lineno))
                if isinstance(node, ast.BinOp) and isinstance(node.op, ast.Pow):
                    self.assertIsInstance(node.right, ast.Constant, (name, node.lineno))
                    self.assertTrue(0 <= node.right.value <= 64, (name, node.lineno))
                if isinstance(node, ast.Compare):
                    for sign, other in zip(node.ops, node.comparators):
                        if isinstance(sign, (ast.Is, ast.IsNot)):
                            self.assertIn(getattr(other, "value", 0), (None, True, False), (name, node.lineno))

    def test_names(self):
        for name, tree in self.trees().items():
            own = {node.name for node in tree.body if isinstance(node, ast.ClassDef)}
            for node in tree.body:
                if isinstance(node, ast.ImportFrom):
                    own |= {each.asname or each.name for each in node.names}
            for bound in bound_names(tree):
                self.assertNotIn(bound, dir(builtins), name)
                self.assertNotIn(bound, BARRED_NAMES, name)
                self.assertNotIn(bound, own, name)
                self.assertFalse(bound.startswith("_"), (name, bound))
            for node in ast.walk(tree):
                if isinstance(node, ast.Name) and isinstance(node.ctx, ast.Load) and node.id in dir(builtins):
                    self.assertIn(node.id, BUILTINS, (name, node.lineno))
                if isinstance(node, (ast.FunctionDef, ast.ClassDef)):
                    self.assertNotIn(node.name, BARRED_NAMES, name)
                    self.assertTrue(node.name.startswith("__") or not node.name.startswith("_"), (name, node.name))

    def test_methods(self):
        own = set()
        for tree in self.trees().values():
            for node in ast.walk(tree):
                if isinstance(node, ast.ClassDef):
                    own |= {each.name for each in node.body if isinstance(each, ast.FunctionDef)}
        for name, tree in self.trees().items():
            for node in ast.walk(tree):
                if isinstance(node, ast.Call) and isinstance(node.func, ast.Attribute):
                    self.assertIn(node.func.attr, set(METHODS) | own, (name, node.lineno))

    def test_iterated_at_once(self):
        for name, tree in self.trees().items():
            allowed = []
            for node in ast.walk(tree):
                if isinstance(node, (ast.For, ast.comprehension)):
                    allowed.append(node.iter)
                elif isinstance(node, ast.Call) and called_name(node) in TAKERS:
                    allowed += node.args
            for node in ast.walk(tree):
                if isinstance(node, ast.Call) and called_name(node) in AT_ONCE:
                    self.assertIn(node, allowed, (name, node.lineno))

    def test_errors(self):
        for name, tree in self.trees().items():
            for node in ast.walk(tree):
                if isinstance(node, ast.ExceptHandler):
                    self.assertIsNotNone(node.type, (name, node.lineno))
                    self.assertNotIn(getattr(node.type, "id", None), ("Exception", "TypeError"), (name, node.lineno))
                if isinstance(node, ast.Raise) and node.exc is not None:
                    self.assertIsInstance(node.exc, ast.Call, (name, node.lineno))

    def test_classes(self):
        methods = set()
        attributes = set()
        for name, tree in self.trees().items():
            for node in ast.walk(tree):
                if isinstance(node, ast.ClassDef):
                    self.assertIn(node, tree.body, name)
                    self.assertEqual(node.decorator_list, [], name)
                    own = [each.name for each in node.body if isinstance(each, ast.FunctionDef)]
                    self.assertEqual(len(own), len(set(own)), (name, node.name))
                    methods |= set(own)
                elif isinstance(node, ast.FunctionDef):
                    self.assertEqual(node.decorator_list, [], (name, node.name))
                elif isinstance(node, ast.Attribute) and not isinstance(node.ctx, ast.Load):
                    attributes.add(node.attr)
        self.assertEqual(methods & attributes, set())
        for own in methods:
            self.assertTrue(not own.startswith("__") or own in DOUBLE_METHODS, own)
        built_in = set().union(*[dir(each) for each in ("", 0, [], {}, (), b"", set())])
        plain = {own for own in methods if not own.startswith("__")}
        self.assertEqual(plain & (built_in - set(METHODS)), set())
        self.assertEqual(attributes & (built_in - set(FREE_ATTRIBUTES)), set())
        for name, tree in self.trees().items():
            for node in ast.walk(tree):
                if isinstance(node, ast.Attribute) and isinstance(node.ctx, ast.Load):
                    self.assertIn(node.attr, attributes | methods | set(METHODS), (name, node.lineno))

    def test_double_underscore_methods_return_at_the_end(self):
        allowed = {"__len__": ("len",), "__str__": ("str", "repr", "join"), "__repr__": ("str", "repr", "join")}
        for name, tree in self.trees().items():
            for node in ast.walk(tree):
                if isinstance(node, ast.FunctionDef) and node.name in allowed:
                    self.assertIsInstance(node.body[-1], ast.Return, (name, node.name))
                    for each in ast.walk(node):
                        self.assertNotIsInstance(each, (ast.Assign, ast.AugAssign, ast.Delete), (name, node.name))
                        if isinstance(each, ast.Return) and isinstance(each.value, ast.Call):
                            self.assertIn(called_name(each.value), allowed[node.name], (name, node.name))
                        elif isinstance(each, ast.Return):
                            self.assertIsInstance(each.value, (ast.Constant, ast.JoinedStr), (name, node.name))

    def test_finally_is_simple(self):
        for name, tree in self.trees().items():
            for node in ast.walk(tree):
                if isinstance(node, ast.Try):
                    for each in [inner for row in node.finalbody for inner in ast.walk(row)]:
                        allowed = (ast.Assign, ast.If, ast.Compare, ast.Is, ast.IsNot, ast.Constant, ast.Name,
                                   ast.Attribute,
                                   ast.Tuple, ast.Load, ast.Store, ast.Pass)
                        self.assertIsInstance(each, allowed, (name, node.lineno))

    def test_only_own_errors_are_caught(self):
        own = self.defined_names(self.trees()["errors.py"])
        for name, tree in self.trees().items():
            for node in ast.walk(tree):
                if isinstance(node, ast.ExceptHandler):
                    caught = node.type.elts if isinstance(node.type, ast.Tuple) else [node.type]
                    for each in caught:
                        self.assertIn(each.id, own, (name, node.lineno))
                if isinstance(node, ast.Raise) and node.exc is not None:
                    self.assertIn(node.exc.func.id, own, (name, node.lineno))

    def test_tables_at_module_level_are_flat(self):
        for name, tree in self.trees().items():
            for node in tree.body:
                if isinstance(node, ast.Assign):
                    for each in list(ast.walk(node.value))[1:]:
                        self.assertNotIsInstance(each, (ast.List, ast.Dict, ast.Set, ast.Call, ast.ListComp), name)

    def test_python_gives_no_warning(self):
        for name, text in self.files.items():
            with warnings.catch_warnings():
                warnings.simplefilter("error")
                compile(text, name, "exec")


if __name__ == "__main__":
    unittest.main()
