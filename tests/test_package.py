"""Point [1]: no clock, chance or files; and the form in which the package's files are written."""

import ast
import builtins
import pathlib
import re
import unittest

PACKAGE = pathlib.Path(__file__).resolve().parent.parent / "cornring"
FILES = sorted(PACKAGE.rglob("*.py"))
TEXTS = [path.read_text(encoding="utf-8") for path in FILES]

ALLOWED = set(
    "len range enumerate zip min max sum abs sorted reversed int str bool list tuple dict set frozenset"
    " isinstance ord repr any all divmod Exception ValueError TypeError KeyError IndexError LookupError"
    " ZeroDivisionError ArithmeticError OverflowError RuntimeError NotImplementedError AttributeError"
    " StopIteration object".split()
)
WORDS_LEFT_OUT = (
    "type typing typing_extensions enum Enum IntEnum StrEnum Flag IntFlag Generic Protocol ABC ABCMeta"
    " namedtuple NamedTuple TypedDict TYPE_CHECKING abstractmethod".split()
)


class Package(unittest.TestCase):
    def test_the_modules_are_there(self):
        names = [path.name for path in FILES]
        for name in ("__init__", "errors", "ranks", "meeting", "purses", "book", "market", "day"):
            self.assertIn(name + ".py", names)

    def test_nothing_but_plain_files_lies_in_it(self):
        for path in PACKAGE.rglob("*"):
            # Python itself lays its compiled files there when a person runs the tests by hand.
            if "__pycache__" not in path.parts:
                self.assertRegex(path.name, r"^[a-z0-9_]+\.py$")

    def test_only_its_own_modules_are_imported(self):
        for text in TEXTS:
            for node in ast.walk(ast.parse(text)):
                self.assertNotIsInstance(node, ast.Import)
                if isinstance(node, ast.ImportFrom):
                    self.assertEqual(node.level, 0)
                    self.assertRegex(node.module, r"^(cornring\.[a-z0-9_]+|__future__)$")

    def test_no_other_name_of_pythons_own_is_used(self):
        for text in TEXTS:
            names = {node.id for node in ast.walk(ast.parse(text)) if isinstance(node, ast.Name)}
            self.assertEqual(sorted((names & set(dir(builtins))) - ALLOWED), [])

    def test_no_float(self):
        for text in TEXTS:
            for node in ast.walk(ast.parse(text)):
                self.assertNotIsInstance(node, ast.Div)
                self.assertFalse(isinstance(node, ast.Constant) and isinstance(node.value, float))

    def test_no_name_of_pythons_own_is_given_another_meaning(self):
        for text in TEXTS:
            for node in ast.walk(ast.parse(text)):
                if isinstance(node, ast.Name) and isinstance(node.ctx, ast.Store):
                    self.assertNotIn(node.id, dir(builtins))
                if isinstance(node, ast.arg):
                    self.assertNotIn(node.arg, dir(builtins))

    def test_no_name_is_both_a_method_and_a_value(self):
        methods, values = set(), set()
        for text in TEXTS:
            for node in ast.walk(ast.parse(text)):
                if isinstance(node, ast.ClassDef):
                    methods |= {part.name for part in node.body if isinstance(part, ast.FunctionDef)}
                if isinstance(node, ast.Attribute) and isinstance(node.ctx, ast.Store):
                    values.add(node.attr)
        self.assertEqual(methods & values, set())

    def test_signs_and_words(self):
        for text in TEXTS:
            self.assertRegex(text, r"\A[ -~\n]*\Z")
            self.assertEqual([word for word in WORDS_LEFT_OUT if re.search(rf"\b{word}\b", text)], [])

    def test_sizes(self):
        for text in TEXTS:
            rows = text.splitlines()
            self.assertLessEqual(len(rows), 400)
            self.assertLessEqual(max([len(row) for row in rows], default=0), 120)
            for node in ast.walk(ast.parse(text)):
                if isinstance(node, ast.FunctionDef):
                    self.assertLessEqual(node.end_lineno - node.lineno + 1, 40, node.name)


if __name__ == "__main__":
    unittest.main()
