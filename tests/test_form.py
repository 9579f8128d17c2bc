"""The form of the package's files, as far as it can be read off them."""

import ast
import pathlib
import re
import unittest

PACKAGE = pathlib.Path(__file__).resolve().parent.parent / "writeways"
FILES = sorted(PACKAGE.glob("*.py"))
BARRED = re.compile(
    r"\b(type|typing|typing_extensions|enum|Enum|IntEnum|StrEnum|Flag|IntFlag|Generic|Protocol|ABC|ABCMeta|namedtuple"
    r"|NamedTuple|TypedDict|TYPE_CHECKING|abstractmethod)\b|dataclass|overload|contextmanager"
)


class Form(unittest.TestCase):
    def test_only_python_files_stand_in_the_package(self):
        self.assertIn("__init__.py", [file.name for file in FILES])
        others = [file.name for file in PACKAGE.iterdir() if file not in FILES and file.name != "__pycache__"]
        self.assertEqual(others, [])

    def test_signs_words_and_lengths(self):
        for file in FILES:
            rows = file.read_text("utf-8").split("\n")
            self.assertLessEqual(len(rows), 400, file.name)
            for at, row in enumerate(rows):
                with self.subTest(file=file.name, row=at + 1):
                    self.assertLessEqual(len(row), 120)
                    self.assertTrue(all(" " <= sign <= "~" for sign in row))
                    self.assertIsNone(BARRED.search(row))

    def test_functions_are_short_and_imports_stay_in_the_package(self):
        for file in FILES:
            for node in ast.walk(ast.parse(file.read_text("utf-8"))):
                if isinstance(node, ast.FunctionDef):
                    self.assertLessEqual(node.end_lineno - node.lineno + 1, 40, f"{file.name} {node.name}")
                self.assertNotIsInstance(node, (ast.Import, ast.Global, ast.Div))
                if isinstance(node, ast.ImportFrom):
                    self.assertEqual((node.level, node.module.split(".")[0]), (0, "writeways"), file.name)
                if isinstance(node, ast.Constant) and isinstance(node.value, str):
                    self.assertNotIn("%", node.value)

    def test_no_name_is_a_method_and_an_attribute(self):
        methods, attributes = set(), set()
        for file in FILES:
            for node in ast.walk(ast.parse(file.read_text("utf-8"))):
                if isinstance(node, ast.ClassDef):
                    methods |= {part.name for part in node.body if isinstance(part, ast.FunctionDef)}
                if isinstance(node, ast.Attribute) and isinstance(node.ctx, ast.Store):
                    attributes.add(node.attr)
        self.assertEqual(methods & attributes, set())


if __name__ == "__main__":
    unittest.main()
