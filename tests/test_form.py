"""The form of the package's files, as far as it can be read off them."""

import ast
import builtins
import pathlib
import re
import unittest

PACKAGE = pathlib.Path(__file__).resolve().parent.parent / "writeways"
FILES = sorted(PACKAGE.glob("*.py"))
BARRED = re.compile(
    r"\b(type|typing|typing_extensions|enum|Enum|IntEnum|StrEnum|Flag|IntFlag|Generic|Protocol|ABC|ABCMeta|namedtuple"
    r"|NamedTuple|TypedDict|TYPE_CHECKING|abstractmethod)\b|dataclass|overload|contextmanager"
)

BUILTINS = set(
    "len range enumerate zip min max sum abs sorted reversed int str bool bytes list tuple dict set isinstance ord"
    " repr any all divmod super ValueError".split()
)
METHODS = set(
    "append clear copy count endswith extend find get index insert isalnum isalpha isdigit islower isspace isupper"
    " items join keys ljust lower lstrip partition pop remove replace reverse rfind rjust rpartition rsplit rstrip"
    " setdefault split splitlines startswith strip update upper values zfill bit_length isdecimal isascii".split()
)
# What the package writes with; the language has more, which is to be let in here when it is needed.
NODES = set(
    "Module Expr Constant ImportFrom alias FunctionDef ClassDef arguments arg Assign AugAssign For If Return Raise"
    " Continue Delete Name Attribute Subscript Slice Call Compare BoolOp BinOp UnaryOp IfExp List Tuple ListComp"
    " comprehension JoinedStr FormattedValue Starred Load Store Del And Or Not Add Sub Mult FloorDiv Mod USub Eq NotEq"
    " Lt LtE Gt GtE Is IsNot In NotIn".split()
)


def trees():
    return {file.name: ast.parse(file.read_text("utf-8")) for file in FILES}


def names_stored(tree):
    """Parameters and local variables; module-level names are those of capitals."""
    arguments = [node.arg for node in ast.walk(tree) if isinstance(node, ast.arg)]
    return arguments + [
        node.id for node in ast.walk(tree) if isinstance(node, ast.Name) and isinstance(node.ctx, ast.Store)
    ]


def names_at_module_level(tree):
    names = []
    for node in tree.body:
        if isinstance(node, (ast.FunctionDef, ast.ClassDef)):
            names.append(node.name)
        elif isinstance(node, ast.ImportFrom):
            names += [part.name for part in node.names]
        elif isinstance(node, ast.Assign):
            names += [target.id for target in node.targets]
    return names


class Form(unittest.TestCase):
    def test_only_python_files_stand_in_the_package(self):
        self.assertIn("__init__.py", [file.name for file in FILES])
        others = [file.name for file in PACKAGE.iterdir() if file not in FILES and file.name != "__pycache__"]
        self.assertEqual(others, [])

    def test_signs_words_and_lengths(self):
        for file in FILES:
            rows = file.read_text("utf-8").split("\n")
            self.assertLessEqual(len(rows), 400, file.name)
            for at, row in enumerate(rows):
                with self.subTest(file=file.name, row=at + 1):
                    self.assertLessEqual(len(row), 120)
                    self.assertTrue(all(" " <= sign <= "~" for sign in row))
                    self.assertIsNone(BARRED.search(row))

    def test_functions_are_short_and_imports_stay_in_the_package(self):
        for file in FILES:
            for node in ast.walk(ast.parse(file.read_text("utf-8"))):
                if isinstance(node, ast.FunctionDef):
                    self.assertLessEqual(node.end_lineno - node.lineno + 1, 40, f"{file.name} {node.name}")
                self.assertNotIsInstance(node, (ast.Import, ast.Global, ast.Div))
                if isinstance(node, ast.ImportFrom):
                    self.assertEqual((node.level, node.module.split(".")[0]), (0, "writeways"), file.name)
                if isinstance(node, ast.Constant) and isinstance(node.value, str):
                    self.assertNotIn("%", node.value)

    def test_no_name_is_a_method_and_an_attribute(self):
        methods, attributes = set(), set()
        for file in FILES:
            for node in ast.walk(ast.parse(file.read_text("utf-8"))):
                if isinstance(node, ast.ClassDef):
                    methods |= {part.name for part in node.body if isinstance(part, ast.FunctionDef)}
                if isinstance(node, ast.Attribute) and isinstance(node.ctx, ast.Store):
                    attributes.add(node.attr)
        self.assertEqual(methods & attributes, set())

    def test_only_these_forms_are_written(self):
        for name, tree in trees().items():
            for node in ast.walk(tree):
                self.assertIn(type(node).__name__, NODES, (name, getattr(node, "lineno", 0)))
                if isinstance(node, (ast.FunctionDef, ast.ClassDef)):
                    self.assertEqual(node.decorator_list, [], name)
                if isinstance(node, ast.Compare) and isinstance(node.ops[0], (ast.Is, ast.IsNot)):
                    self.assertIsNone(node.comparators[0].value, name)

    def test_a_name_is_bound_once_and_hides_nothing(self):
        for name, tree in trees().items():
            top = names_at_module_level(tree)
            self.assertEqual(len(top), len(set(top)), name)
            imports = [part.name for node in tree.body if isinstance(node, ast.ImportFrom) for part in node.names]
            classes = [node.name for node in tree.body if isinstance(node, ast.ClassDef)]
            for stored in names_stored(tree):
                self.assertNotIn(stored, imports + classes, name)
                self.assertFalse(hasattr(builtins, stored), (name, stored))
                self.assertFalse(stored.startswith("_"), (name, stored))

    def test_only_known_names_and_methods_are_called(self):
        own_methods = set()
        for tree in trees().values():
            for node in ast.walk(tree):
                if isinstance(node, ast.ClassDef):
                    own_methods |= {part.name for part in node.body if isinstance(part, ast.FunctionDef)}
        for name, tree in trees().items():
            top = names_at_module_level(tree)
            for node in ast.walk(tree):
                if not isinstance(node, ast.Call):
                    continue
                self.assertEqual(node.keywords, [], (name, node.lineno))
                if isinstance(node.func, ast.Name):
                    self.assertIn(node.func.id, BUILTINS | set(top), (name, node.lineno))
                else:
                    self.assertIn(node.func.attr, METHODS | own_methods, (name, node.lineno))

    def test_every_import_is_used_and_is_of_the_file_that_defines_it(self):
        for name, tree in trees().items():
            used = {node.id for node in ast.walk(tree) if isinstance(node, ast.Name)}
            for node in tree.body:
                if isinstance(node, ast.ImportFrom):
                    source = ast.parse((PACKAGE / (node.module.split(".")[1] + ".py")).read_text("utf-8"))
                    own = names_at_module_level(ast.Module(
                        [part for part in source.body if not isinstance(part, ast.ImportFrom)], [],
                    ))
                    for part in node.names:
                        self.assertIn(part.name, own, name)
                        self.assertIn(part.name, used, name)


if __name__ == "__main__":
    unittest.main()
