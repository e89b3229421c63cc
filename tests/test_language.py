"""The package keeps to the part of Python that it is written in: what of those rules a walk through it can see."""

import ast
import builtins
import pathlib
import re
import unittest

FOLDER = pathlib.Path(__file__).resolve().parent.parent / "shapeshift"
FILES = sorted(FOLDER.rglob("*.py"))

NODES = """Module Expr Constant ImportFrom alias FunctionDef ClassDef arguments arg Return Assign AugAssign If While For
Break Continue Pass Raise Try ExceptHandler Call Name Attribute Subscript Slice List Tuple Dict Set BinOp UnaryOp BoolOp
Compare IfExp ListComp comprehension Lambda keyword JoinedStr FormattedValue Load Store Add Sub Mult FloorDiv Mod Pow
BitAnd BitOr BitXor LShift RShift Invert Not USub And Or Eq NotEq Lt LtE Gt GtE Is IsNot In NotIn""".split()

OWN_NAMES = """len range enumerate zip min max sum abs sorted reversed int str bool list tuple dict set frozenset
isinstance ord repr any all divmod Exception ValueError TypeError KeyError IndexError LookupError ZeroDivisionError
ArithmeticError OverflowError RuntimeError NotImplementedError AttributeError StopIteration""".split()

METHODS = """append clear copy count endswith extend find get index insert isalnum isalpha isdigit islower isspace isupper
items join keys ljust lower lstrip partition pop remove replace reverse rfind rjust rpartition rsplit rstrip setdefault
split splitlines startswith strip update upper values zfill bit_length""".split()

WORDS = """type typing typing_extensions enum Enum IntEnum StrEnum Flag IntFlag Generic Protocol ABC ABCMeta namedtuple
NamedTuple TypedDict TYPE_CHECKING abstractmethod""".split()


def walked():
    for path in FILES:
        for node in ast.walk(ast.parse(path.read_text())):
            yield path, node


def bound_names(node):
    if isinstance(node, (ast.FunctionDef, ast.ClassDef)):
        return [node.name]
    if isinstance(node, ast.arg):
        return [node.arg]
    if isinstance(node, ast.Name) and isinstance(node.ctx, ast.Store):
        return [node.id]
    if isinstance(node, ast.Attribute) and isinstance(node.ctx, ast.Store):
        return [node.attr]
    return []


class Files(unittest.TestCase):
    def test_nothing_else_lies_in_the_package(self):
        others = [path for path in FOLDER.rglob("*") if path not in FILES and "__pycache__" not in path.parts]
        self.assertEqual(others, [])
        self.assertIn(FOLDER / "__init__.py", FILES)
        for path in FILES:
            self.assertRegex(path.name, r"^(__init__|[a-z][a-z0-9_]*)\.py$")
            self.assertNotIn(path.stem, dir(builtins))

    def test_sizes_and_signs(self):
        for path in FILES:
            lines = path.read_text().split("\n")
            self.assertLessEqual(len(lines), 400)
            for line in lines:
                self.assertRegex(line, r"^[ -~]{0,120}$")
        for path, node in walked():
            if isinstance(node, ast.FunctionDef):
                self.assertLessEqual(node.end_lineno - node.lineno + 1, 40, node.name)

    def test_words_that_stand_nowhere(self):
        for path in FILES:
            text = path.read_text()
            self.assertEqual([word for word in re.findall(r"\w+", text) if word in WORDS], [], path)
            self.assertNotRegex(text, "dataclass|overload|contextmanager")


class Code(unittest.TestCase):
    def test_statements_and_expressions(self):
        for path, node in walked():
            self.assertIn(node.__class__.__name__, NODES, (path, getattr(node, "lineno", 0)))
            if isinstance(node, ast.Assign):
                self.assertEqual(len(node.targets), 1)
            if isinstance(node, (ast.For, ast.While)):
                self.assertEqual(node.orelse, [])
            if isinstance(node, ast.FunctionDef):
                self.assertEqual((node.decorator_list, node.args.vararg, node.args.kwarg), ([], None, None))
            if isinstance(node, ast.Constant):
                self.assertIn(node.value.__class__, (int, str, bool, None.__class__))
            if isinstance(node, ast.BinOp) and isinstance(node.op, ast.Pow):
                self.assertIsInstance(node.right, ast.Constant)

    def test_imports_are_the_packages_own(self):
        for path, node in walked():
            if isinstance(node, ast.ImportFrom):
                self.assertEqual(node.level, 0)
                source = FOLDER.parent / (node.module.replace(".", "/") + ".py")
                self.assertIn(source, FILES)
                top = [name for part in ast.parse(source.read_text()).body for name in bound_names(part)]
                top += [
                    part.targets[0].id for part in ast.parse(source.read_text()).body if isinstance(part, ast.Assign)
                ]
                for name in node.names:
                    self.assertIn(name.name, top)

    def test_names(self):
        for path, node in walked():
            for name in bound_names(node):
                self.assertRegex(name, r"^([A-Za-z][A-Za-z0-9_]*|__init__)$")
                if not isinstance(node, ast.Attribute):
                    self.assertNotIn(name, dir(builtins))
            if isinstance(node, ast.Name) and node.id in dir(builtins):
                self.assertIn(node.id, OWN_NAMES)

    def test_methods(self):
        own = [node.name for path, node in walked() if isinstance(node, ast.FunctionDef)]
        for path, node in walked():
            if isinstance(node, ast.Call) and isinstance(node.func, ast.Attribute):
                self.assertIn(node.func.attr, METHODS + own)

    def test_no_name_is_a_method_and_a_value(self):
        stored = [
            node.attr for path, node in walked() if isinstance(node, ast.Attribute) and isinstance(node.ctx, ast.Store)
        ]
        taken = [name for kind in (str, int, list, dict, set, bytes) for name in dir(kind)]
        for path, node in walked():
            if isinstance(node, ast.ClassDef):
                for method in [part.name for part in node.body if isinstance(part, ast.FunctionDef)]:
                    self.assertNotIn(method, stored)
        self.assertEqual([name for name in stored if name in taken], [])


if __name__ == "__main__":
    unittest.main()
