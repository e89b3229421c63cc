"""The package keeps to the part of Python that it is written in: what of those rules a walk through it can see."""

import ast
import builtins
import pathlib
import re
import unittest

FOLDER = pathlib.Path(__file__).resolve().parent.parent / "shapeshift"
FILES = sorted(FOLDER.rglob("*.py"))

NODES = """Module Expr Constant ImportFrom alias FunctionDef ClassDef arguments arg Return Assign AugAssign If While For
Break Continue Pass Raise Try ExceptHandler Call Name Attribute Subscript Slice List Tuple Dict Set BinOp UnaryOp BoolOp
Compare IfExp ListComp comprehension Lambda keyword JoinedStr FormattedValue Load Store Add Sub Mult FloorDiv Mod Pow
BitAnd BitOr BitXor LShift RShift Invert Not USub And Or Eq NotEq Lt LtE Gt GtE Is IsNot In NotIn""".split()

OWN_NAMES = """len range enumerate zip min max sum abs sorted reversed int str bool list tuple dict set frozenset
isinstance ord repr any all divmod Exception ValueError TypeError KeyError IndexError LookupError ZeroDivisionError
ArithmeticError OverflowError RuntimeError NotImplementedError AttributeError StopIteration""".split()

WALKED = "zip enumerate reversed range items keys values".split()
HOLDERS = "list tuple dict sorted sum any all enumerate zip min max".split()

METHODS = """append clear copy count endswith extend find get index insert isalnum isalpha isdigit islower isspace isupper
items join keys ljust lower lstrip partition pop remove replace reverse rfind rjust rpartition rsplit rstrip setdefault
split splitlines startswith strip update upper values zfill bit_length""".split()

WORDS = """type typing typing_extensions enum Enum IntEnum StrEnum Flag IntFlag Generic Protocol ABC ABCMeta namedtuple
NamedTuple TypedDict TYPE_CHECKING abstractmethod""".split()


def walked():
    for path in FILES:
        for node in ast.walk(ast.parse(path.read_text())):
            yield path, node


def bound_names(node):
    if isinstance(node, (ast.FunctionDef, ast.ClassDef)):
        return [node.name]
    if isinstance(node, ast.arg):
        return [node.arg]
    if isinstance(node, ast.Name) and isinstance(node.ctx, ast.Store):
        return [node.id]
    if isinstance(node, ast.Attribute) and isinstance(node.ctx, ast.Store):
        return [node.attr]
    return []


def tree_of(path):
    return ast.parse(path.read_text())


def imports_of(path):
    return [node for node in tree_of(path).body if isinstance(node, ast.ImportFrom)]


def is_plain_value(node):
    if isinstance(node, ast.UnaryOp):
        return isinstance(node.op, ast.USub) and is_plain_value(node.operand)
    if isinstance(node, ast.Tuple):
        return all(is_plain_value(part) for part in node.elts)
    return isinstance(node, ast.Constant)


class Files(unittest.TestCase):
    def test_nothing_else_lies_in_the_package(self):
        others = [path for path in FOLDER.rglob("*") if path not in FILES and "__pycache__" not in path.parts]
        self.assertEqual(others, [])
        self.assertIn(FOLDER / "__init__.py", FILES)
        for path in FILES:
            self.assertRegex(path.name, r"^(__init__|[a-z][a-z0-9_]*)\.py$")
            self.assertNotIn(path.stem, dir(builtins))

    def test_sizes_and_signs(self):
        for path in FILES:
            lines = path.read_text().split("\n")
            self.assertLessEqual(len(lines), 400)
            for line in lines:
                self.assertRegex(line, r"^[ -~]{0,120}$")
        for path, node in walked():
            if isinstance(node, ast.FunctionDef):
                self.assertLessEqual(node.end_lineno - node.lineno + 1, 40, node.name)

    def test_words_that_stand_nowhere(self):
        for path in FILES:
            text = path.read_text()
            self.assertEqual([word for word in re.findall(r"\w+", text) if word in WORDS], [], path)
            self.assertNotRegex(text, "dataclass|overload|contextmanager")


class Code(unittest.TestCase):
    def test_statements_and_expressions(self):
        for path, node in walked():
            self.assertIn(node.__class__.__name__, NODES, (path, getattr(node, "lineno", 0)))
            if isinstance(node, ast.Assign):
                self.assertEqual(len(node.targets), 1)
            if isinstance(node, (ast.For, ast.While)):
                self.assertEqual(node.orelse, [])
            if isinstance(node, ast.FunctionDef):
                self.assertEqual((node.decorator_list, node.args.vararg, node.args.kwarg), ([], None, None))
            if isinstance(node, ast.Constant):
                self.assertIn(node.value.__class__, (int, str, bool, None.__class__))
            if isinstance(node, ast.BinOp) and isinstance(node.op, ast.Pow):
                self.assertIsInstance(node.right, ast.Constant)

    def test_imports_are_the_packages_own(self):
        for path, node in walked():
            if isinstance(node, ast.ImportFrom):
                self.assertEqual(node.level, 0)
                source = FOLDER.parent / (node.module.replace(".", "/") + ".py")
                self.assertIn(source, FILES)
                top = [name for part in ast.parse(source.read_text()).body for name in bound_names(part)]
                top += [
                    part.targets[0].id for part in ast.parse(source.read_text()).body if isinstance(part, ast.Assign)
                ]
                for name in node.names:
                    self.assertIn(name.name, top)

    def test_names(self):
        for path, node in walked():
            for name in bound_names(node):
                self.assertRegex(name, r"^([A-Za-z][A-Za-z0-9_]*|__init__)$")
                if not isinstance(node, ast.Attribute):
                    self.assertNotIn(name, dir(builtins))
            if isinstance(node, ast.Name) and node.id in dir(builtins):
                self.assertIn(node.id, OWN_NAMES)

    def test_methods(self):
        own = [node.name for path, node in walked() if isinstance(node, ast.FunctionDef)]
        for path, node in walked():
            if isinstance(node, ast.Call) and isinstance(node.func, ast.Attribute):
                self.assertIn(node.func.attr, METHODS + own)

    def test_no_name_is_a_method_and_a_value(self):
        stored = [
            node.attr for path, node in walked() if isinstance(node, ast.Attribute) and isinstance(node.ctx, ast.Store)
        ]
        taken = [name for kind in (str, int, list, dict, set, bytes) for name in dir(kind)]
        for path, node in walked():
            if isinstance(node, ast.ClassDef):
                for method in [part.name for part in node.body if isinstance(part, ast.FunctionDef)]:
                    self.assertNotIn(method, stored)
        self.assertEqual([name for name in stored if name in taken], [])

    def test_the_top_of_a_file(self):
        for path in FILES:
            first, *rest = tree_of(path).body
            self.assertIsInstance(first.value.value, str)
            for node in rest:
                self.assertIsInstance(node, (ast.ImportFrom, ast.FunctionDef, ast.ClassDef, ast.Assign))
                if isinstance(node, ast.Assign):
                    self.assertTrue(is_plain_value(node.value), (path, node.lineno))
            bound = [name for node in rest for name in bound_names(node)]
            bound += [node.targets[0].id for node in rest if isinstance(node, ast.Assign)]
            bound += [name.name for node in imports_of(path) for name in node.names]
            self.assertEqual(len(bound), len(set(bound)), path)

    def test_no_local_is_called_like_an_import_or_a_class(self):
        for path in FILES:
            taken = [name.name for node in imports_of(path) for name in node.names]
            taken += [node.name for node in tree_of(path).body if isinstance(node, ast.ClassDef)]
            for node in ast.walk(tree_of(path)):
                if isinstance(node, (ast.arg, ast.Name)):
                    self.assertEqual([name for name in bound_names(node) if name in taken], [], (path, node.lineno))

    def test_no_two_files_draw_from_one_another(self):
        drawn = {path.stem: [node.module.split(".")[-1] for node in imports_of(path)] for path in FILES}
        while drawn:
            free = [stem for stem in drawn if not any(other in drawn for other in drawn[stem])]
            self.assertNotEqual(free, [], drawn)
            drawn = {stem: drawn[stem] for stem in drawn if stem not in free}

    def test_what_is_walked_at_once(self):
        for path in FILES:
            calls = []
            walked_there = []
            for node in ast.walk(tree_of(path)):
                if isinstance(node, (ast.For, ast.comprehension)):
                    walked_there.append(node.iter)
                if isinstance(node, ast.Call):
                    calls.append((node, getattr(node.func, "id", getattr(node.func, "attr", ""))))
            walked_there += [part for node, name in calls if name in HOLDERS for part in node.args[:1]]
            for node, name in calls:
                if name in WALKED:
                    self.assertIn(node, walked_there, (path, node.lineno))

    def test_no_annotation_set_or_nested_walk(self):
        for path, node in walked():
            self.assertNotIsInstance(node, (ast.Set, ast.Lambda))
            if isinstance(node, ast.arg):
                self.assertIsNone(node.annotation)
            if isinstance(node, ast.FunctionDef):
                self.assertIsNone(node.returns)
            if isinstance(node, ast.ListComp):
                self.assertEqual(len(node.generators), 1)
                self.assertLessEqual(len(node.generators[0].ifs), 1)
            if isinstance(node, ast.Compare) and isinstance(node.ops[0], (ast.Is, ast.IsNot)):
                self.assertIsInstance(node.comparators[0], ast.Constant)
            if isinstance(node, ast.Constant) and isinstance(node.value, str):
                self.assertNotIn("%", node.value)
            if isinstance(node, ast.Call):
                self.assertEqual(node.keywords, [])


if __name__ == "__main__":
    unittest.main()
