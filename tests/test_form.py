"""The form of the package's files, as far as it can be read off them."""

import ast
import contextlib
import io
import os
import re
import sys
import unittest

import wirepower
from tests.helper import begin, calm, everything, plug, settle, wish, written
from wirepower.switch import answers

FOLDER = os.path.dirname(os.path.abspath(wirepower.__file__))
WORDS = ("type typing typing_extensions enum Enum IntEnum StrEnum Flag IntFlag Generic Protocol ABC ABCMeta "
         "namedtuple NamedTuple TypedDict TYPE_CHECKING abstractmethod").split()
OUTSIDE = (ast.With, ast.Match, ast.Delete, ast.Global, ast.Nonlocal, ast.Assert, ast.Yield, ast.YieldFrom,
           ast.AsyncFunctionDef, ast.Await, ast.SetComp, ast.DictComp, ast.GeneratorExp, ast.NamedExpr, ast.Starred,
           ast.Div, ast.Import)


def files():
    texts = {}
    for name in sorted(os.listdir(FOLDER)):
        if name != "__pycache__":
            with open(os.path.join(FOLDER, name), encoding="utf-8") as file:
                texts[name] = file.read()
    return texts


class Form(unittest.TestCase):
    def test_only_python_files_with_plain_names(self):
        for name in files():
            self.assertRegex(name, r"^[a-z_][a-z0-9_]*\.py$")

    def test_signs_and_size(self):
        for name, text in files().items():
            self.assertRegex(text, r"\A[ -~\n]*\Z", name)
            lines = text.splitlines()
            self.assertLessEqual(len(lines), 400, name)
            self.assertLessEqual(max(len(line) for line in lines), 120, name)

    def test_words_that_stand_nowhere(self):
        for name, text in files().items():
            self.assertEqual(set(re.findall(r"\w+", text)) & set(WORDS), set(), name)
            self.assertNotRegex(text, "dataclass|overload|contextmanager", name)

    def test_statements_imports_and_names(self):
        for name, text in files().items():
            for node in ast.walk(ast.parse(text)):
                self.assertNotIsInstance(node, OUTSIDE, (name, getattr(node, "lineno", 0)))
                if isinstance(node, ast.ImportFrom):
                    self.assertTrue(node.module.startswith("wirepower."), (name, node.lineno))
                if isinstance(node, ast.FunctionDef):
                    self.assertLessEqual(node.end_lineno - node.lineno + 1, 40, (name, node.name))
                    self.assertTrue(node.name == "__init__" or node.name[0] != "_", (name, node.name))
                if isinstance(node, ast.Assign):
                    self.assertEqual(len(node.targets), 1, (name, node.lineno))


class Quiet(unittest.TestCase):
    def test_prints_nothing_and_imports_nothing(self):
        loaded = set(sys.modules)
        said = io.StringIO()
        with contextlib.redirect_stdout(said), contextlib.redirect_stderr(said):
            answers(written((begin(), plug(0, 1), settle(), wish(0, 9), calm(), settle(), *everything(4, 2), begin(0))))
        self.assertEqual((said.getvalue(), set(sys.modules) - loaded), ("", set()))


if __name__ == "__main__":
    unittest.main()
