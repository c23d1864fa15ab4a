"""The rules of ../shared/LANGUAGE.md that are easy to see in the files of the package."""

import ast
import os
import re
import unittest
import warnings

FOLDER = os.path.join(os.path.dirname(os.path.abspath(__file__)), os.pardir, "keepsort")

BARRED_WORDS = (
    "type typing typing_extensions enum Enum IntEnum StrEnum Flag IntFlag Generic Protocol ABC ABCMeta "
    "namedtuple NamedTuple TypedDict TYPE_CHECKING abstractmethod"
).split()
BARRED_PARTS = ("dataclass", "overload", "contextmanager")


def read_files():
    found = {}
    for name in sorted(os.listdir(FOLDER)):
        if name != "__pycache__":
            with open(os.path.join(FOLDER, name), "rb") as held:
                found[name] = held.read()
    return found


class LanguageTest(unittest.TestCase):
    def setUp(self):
        self.files = {name: data.decode("ascii") for name, data in read_files().items()}

    def trees(self):
        return {name: ast.parse(text) for name, text in self.files.items()}

    def test_only_python_files_with_plain_names(self):
        self.assertIn("__init__.py", self.files)
        for name in self.files:
            self.assertRegex(name, r"\A[a-z0-9_]+\.py\Z")

    def test_characters(self):
        for name, text in self.files.items():
            self.assertIsNone(re.search(r"[^ -~\n]", text), name)

    def test_sizes(self):
        for name, text in self.files.items():
            self.assertLessEqual(len(text.splitlines()), 400, name)
            self.assertLessEqual(max(len(line) for line in text.splitlines()), 120, name)
        for name, tree in self.trees().items():
            for node in ast.walk(tree):
                if isinstance(node, ast.FunctionDef):
                    self.assertLessEqual(node.end_lineno - node.lineno + 1, 40, (name, node.name))

    def test_words(self):
        for name, text in self.files.items():
            words = re.findall(r"\w+", text)
            self.assertEqual([word for word in words if word in BARRED_WORDS], [], name)
            self.assertEqual([part for part in BARRED_PARTS if part in text], [], name)

    def test_imports_come_from_the_package(self):
        for name, tree in self.trees().items():
            for node in ast.walk(tree):
                if name != "__main__.py":
                    self.assertNotIsInstance(node, ast.Import, name)
                if isinstance(node, ast.ImportFrom) and node.module != "__future__":
                    self.assertEqual(node.level, 0, name)
                    self.assertTrue(node.module.startswith("keepsort."), name)
                    self.assertNotIn("*", [each.name for each in node.names], name)

    def test_python_gives_no_warning(self):
        for name, text in self.files.items():
            with warnings.catch_warnings():
                warnings.simplefilter("error")
                compile(text, name, "exec")


if __name__ == "__main__":
    unittest.main()
