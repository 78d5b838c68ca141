"""The package's own files held against the rules of LANGUAGE.md that a look at
their words and their syntax can tell; the rest is for whoever reads them."""

import ast
import builtins
import pathlib
import re
import unittest

PACKAGE = pathlib.Path(__file__).resolve().parent.parent / "ferryrows"
FILES = sorted(PACKAGE.rglob("*.py"))

STATEMENTS = (
    ast.FunctionDef, ast.ClassDef, ast.Assign, ast.AugAssign, ast.If, ast.While, ast.For, ast.Return,
    ast.Break, ast.Continue, ast.Pass, ast.Raise, ast.Try, ast.Expr, ast.ImportFrom,
)
EXPRESSIONS = (
    ast.Constant, ast.List, ast.Tuple, ast.Dict, ast.Set, ast.BinOp, ast.UnaryOp, ast.BoolOp, ast.Compare,
    ast.IfExp, ast.Call, ast.Attribute, ast.Subscript, ast.Slice, ast.ListComp, ast.JoinedStr,
    ast.FormattedValue, ast.Name, ast.Lambda,
)
BUILT_INS = set(
    "len range enumerate zip min max sum abs sorted reversed int str bool list tuple dict set frozenset "
    "isinstance ord repr any all divmod Exception ValueError TypeError KeyError IndexError LookupError "
    "ZeroDivisionError ArithmeticError OverflowError RuntimeError NotImplementedError AttributeError "
    "StopIteration".split()
)
METHODS = set(
    "append clear copy count endswith extend find get index insert isalnum isalpha isdigit islower isspace "
    "isupper items join keys ljust lower lstrip partition pop remove replace reverse rfind rjust rpartition "
    "rsplit rstrip setdefault split splitlines startswith strip update upper values zfill bit_length".split()
)
SPECIAL_METHODS = {"__init__", "__eq__", "__repr__", "__str__", "__len__"}
NAMES_NOT_USED = set("register mro elements open input version_info with_traceback add_note".split())
NAMES_NOT_USED.update(
    "attrgetter breakpoint builtins compile copyright credits delattr dir eval exec exit gc getattr globals "
    "hasattr help id importlib license locals methodcaller os quit setattr super type vars sys".split()
)
WORDS_NOT_USED = re.compile(
    r"\b(type|typing|typing_extensions|enum|Enum|IntEnum|StrEnum|Flag|IntFlag|Generic|Protocol|ABC|ABCMeta"
    r"|namedtuple|NamedTuple|TypedDict|TYPE_CHECKING|abstractmethod)\b|dataclass|overload|contextmanager"
)


def bound_names(tree):
    """Every name that a file gives to a value, a parameter, a function or a class."""
    names = [node.id for node in ast.walk(tree) if isinstance(node, ast.Name) and isinstance(node.ctx, ast.Store)]
    names += [node.arg for node in ast.walk(tree) if isinstance(node, ast.arg)]
    names += [node.name for node in ast.walk(tree) if isinstance(node, (ast.FunctionDef, ast.ClassDef))]
    names += [node.name for node in ast.walk(tree) if isinstance(node, ast.ExceptHandler) and node.name]
    return names


def top_names(tree):
    """Every name that a file defines at its top."""
    names = [node.targets[0].id for node in tree.body if isinstance(node, ast.Assign)]
    return names + [node.name for node in tree.body if isinstance(node, (ast.FunctionDef, ast.ClassDef))]


class Language(unittest.TestCase):
    def every_file(self):
        for path in FILES:
            text = path.read_text(encoding="utf-8")
            yield text, ast.parse(text, str(path))

    def every_node(self, *kinds):
        for text, tree in self.every_file():
            for node in ast.walk(tree):
                if isinstance(node, kinds):
                    yield node

    def test_only_plain_files_lie_in_the_package(self):
        self.assertIn(PACKAGE / "__init__.py", FILES)
        self.assertIn(PACKAGE / "rows.py", FILES)
        for path in PACKAGE.rglob("*"):
            if "__pycache__" not in path.parts:
                self.assertRegex(path.name, r"^(__init__|[a-z][a-z0-9_]*)\.py$")

    def test_sizes_and_signs(self):
        for text, tree in self.every_file():
            self.assertLessEqual(len(text.splitlines()), 400)
            self.assertRegex(text, r"^[\n -~]*$")
            self.assertIsNone(WORDS_NOT_USED.search(text))
            for line in text.split("\n"):
                self.assertLessEqual(len(line), 120)
        for node in self.every_node(ast.FunctionDef):
            self.assertLessEqual(node.end_lineno - node.lineno + 1, 40, node.name)

    def test_statements_and_expressions(self):
        for node in self.every_node(ast.stmt):
            self.assertIsInstance(node, STATEMENTS)
        for node in self.every_node(ast.expr):
            self.assertIsInstance(node, EXPRESSIONS)
        for node in self.every_node(ast.Assign):
            self.assertEqual(len(node.targets), 1)
            self.assertNotIsInstance(node.targets[0], (ast.Tuple, ast.List))
        for node in self.every_node(ast.For, ast.While):
            self.assertEqual(node.orelse, [])
        for node in self.every_node(ast.Try):
            self.assertEqual(node.finalbody, [])
        for node in self.every_node(ast.BinOp, ast.AugAssign):
            self.assertNotIsInstance(node.op, (ast.Div, ast.MatMult))
        for node in self.every_node(ast.Constant):
            self.assertNotIsInstance(node.value, (float, complex, bytes))

    def test_only_the_top_of_a_file_has_a_text_by_itself(self):
        for text, tree in self.every_file():
            for node in ast.walk(tree):
                if isinstance(node, ast.Expr) and node not in tree.body[:1]:
                    self.assertIsInstance(node.value, ast.Call)

    def test_functions_and_classes_are_plain(self):
        for node in self.every_node(ast.FunctionDef, ast.ClassDef):
            self.assertEqual(node.decorator_list, [])
        for node in self.every_node(ast.arguments):
            self.assertEqual((node.vararg, node.kwarg, node.kwonlyargs, node.posonlyargs), (None, None, [], []))
        for node in self.every_node(ast.ClassDef):
            self.assertLessEqual(len(node.bases), 1)
            for part in node.body:
                self.assertIsInstance(part, ast.FunctionDef)

    def test_imports_are_the_package_s_own(self):
        for node in self.every_node(ast.ImportFrom):
            self.assertEqual(node.level, 0)
            self.assertRegex(node.module, r"^ferryrows\.")

    def test_imports_come_from_the_file_that_defines_the_name(self):
        for node in self.every_node(ast.ImportFrom):
            path = PACKAGE.parent / (node.module.replace(".", "/") + ".py")
            defined = top_names(ast.parse(path.read_text(encoding="utf-8")))
            for part in node.names:
                self.assertIn(part.name, defined)
                self.assertIsNone(part.asname)

    def test_no_two_files_draw_from_one_another(self):
        drawn = {}
        for path in FILES:
            tree = ast.parse(path.read_text(encoding="utf-8"))
            modules = [node.module for node in ast.walk(tree) if isinstance(node, ast.ImportFrom)]
            drawn["ferryrows." + path.stem] = set(modules)
        while drawn:
            free = [module for module in drawn if not drawn[module] & set(drawn)]
            self.assertNotEqual(free, [], f"these draw from one another: {sorted(drawn)}")
            for module in free:
                del drawn[module]

    def test_names(self):
        for text, tree in self.every_file():
            for name in bound_names(tree):
                if name not in SPECIAL_METHODS:
                    self.assertRegex(name, r"^[A-Za-z][A-Za-z0-9_]*$")
                    self.assertNotIn(name, dir(builtins))
            own = set(bound_names(tree))
            own.update(part.name for node in ast.walk(tree) if isinstance(node, ast.ImportFrom) for part in node.names)
            for node in ast.walk(tree):
                if isinstance(node, ast.Name):
                    self.assertTrue(node.id in own or node.id in BUILT_INS, node.id)
                    self.assertNotIn(node.id, NAMES_NOT_USED)
                if isinstance(node, ast.Attribute):
                    self.assertNotIn(node.attr, NAMES_NOT_USED)

    def test_methods(self):
        own = {node.name for node in self.every_node(ast.FunctionDef)}
        for node in self.every_node(ast.Call):
            if isinstance(node.func, ast.Attribute):
                self.assertIn(node.func.attr, METHODS | own | SPECIAL_METHODS)

    def test_a_name_is_bound_once_at_a_file_s_top(self):
        for text, tree in self.every_file():
            names = top_names(tree)
            names += [part.name for node in tree.body if isinstance(node, ast.ImportFrom) for part in node.names]
            self.assertEqual(len(names), len(set(names)))

    def test_is_stands_beside_none_true_and_false(self):
        for node in self.every_node(ast.Compare):
            for operator, other in zip(node.ops, node.comparators):
                if isinstance(operator, (ast.Is, ast.IsNot)):
                    self.assertIsInstance(other, ast.Constant)
                    self.assertTrue(other.value is None or isinstance(other.value, bool))


if __name__ == "__main__":
    unittest.main()
