"""That the package keeps to the small part of Python it is written in, as far as a walk over its files shows it."""

import ast
import builtins
import pathlib
import re
import unittest

PACKAGE = pathlib.Path(__file__).resolve().parent.parent / "roadvotes"

BUILT_IN = """len range enumerate zip min max sum abs sorted reversed int str bool list tuple dict set frozenset
    isinstance ord repr any all divmod Exception ValueError TypeError KeyError IndexError LookupError
    ZeroDivisionError ArithmeticError OverflowError RuntimeError NotImplementedError AttributeError
    StopIteration""".split()

METHODS = """append clear copy count endswith extend find get index insert isalnum isalpha isdigit islower isspace
    isupper items join keys ljust lower lstrip partition pop remove replace reverse rfind rjust rpartition rsplit
    rstrip setdefault split splitlines startswith strip update upper values zfill bit_length""".split()

NODES = """Module Expr Constant ImportFrom alias FunctionDef arguments arg ClassDef Assign AugAssign If While For
    Return Break Continue Pass Raise Try ExceptHandler Call keyword Attribute Subscript Slice Name Load Store List
    Tuple Dict ListComp comprehension BinOp UnaryOp BoolOp Compare IfExp Lambda JoinedStr FormattedValue
    Add Sub Mult FloorDiv Mod Pow BitAnd BitOr BitXor LShift RShift Invert USub UAdd Not And Or
    Eq NotEq Lt LtE Gt GtE In NotIn Is IsNot""".split()

WORDS = re.compile(r"\b(type|typing|typing_extensions|enum|Enum|IntEnum|StrEnum|Flag|IntFlag|Generic|Protocol|ABC|ABCMeta"
                   r"|namedtuple|NamedTuple|TypedDict|TYPE_CHECKING|abstractmethod)\b|dataclass|overload|contextmanager")


def files():
    return sorted(path for path in PACKAGE.rglob("*") if "__pycache__" not in path.parts)


def trees():
    return {path.name: ast.parse(path.read_text("ascii")) for path in files()}


def nodes(tree, *kinds):
    return [node for node in ast.walk(tree) if isinstance(node, kinds)]


class Form(unittest.TestCase):
    def test_files(self):
        self.assertIn(PACKAGE / "__init__.py", files())
        self.assertIn(PACKAGE / "roads.py", files())
        for path in files():
            self.assertRegex(path.name, r"^([a-z][a-z0-9_]*|__init__)\.py$")

    def test_signs_and_sizes(self):
        for path in files():
            text = path.read_bytes().decode("ascii")
            self.assertRegex(text, r"\A[ -~\n]*\Z")
            self.assertNotRegex(text, WORDS)
            self.assertLessEqual(text.count("\n"), 400)
            self.assertLessEqual(max(len(line) for line in text.split("\n")), 120)

    def test_functions_are_small(self):
        for name, tree in trees().items():
            for node in nodes(tree, ast.FunctionDef):
                self.assertLessEqual(node.end_lineno - node.lineno + 1, 40, f"{name}: {node.name}")

    def test_nothing_but_the_kinds_of_steps_that_are_allowed(self):
        for name, tree in trees().items():
            for node in ast.walk(tree):
                self.assertIn(node.__class__.__name__, NODES, f"{name}: {getattr(node, 'lineno', 0)}")
            for node in nodes(tree, ast.Constant):
                self.assertIn(node.value.__class__, (int, str, bool, None.__class__), f"{name}: {node.lineno}")
            for node in nodes(tree, ast.Assign):
                self.assertEqual(len(node.targets), 1, f"{name}: {node.lineno}")
            for node in nodes(tree, ast.FunctionDef, ast.ClassDef):
                self.assertEqual(node.decorator_list, [], f"{name}: {node.lineno}")
            for node in nodes(tree, ast.ListComp):
                self.assertEqual(len(node.generators), 1, f"{name}: {node.lineno}")

    def test_imports_are_of_the_package_alone(self):
        known = trees()
        for name, tree in known.items():
            for node in nodes(tree, ast.ImportFrom):
                self.assertEqual(node.level, 0)
                self.assertRegex(node.module, r"^roadvotes\.[a-z]+$")
                source = known[node.module.split(".")[1] + ".py"]
                defined = [part.name for part in source.body if isinstance(part, (ast.FunctionDef, ast.ClassDef))]
                defined += [part.targets[0].id for part in source.body if isinstance(part, ast.Assign)]
                for imported in node.names:
                    self.assertIn(imported.name, defined, f"{name}: {node.lineno}")

    def test_names(self):
        for name, tree in trees().items():
            bound = [node.id for node in nodes(tree, ast.Name) if isinstance(node.ctx, ast.Store)]
            bound += [node.arg for node in nodes(tree, ast.arg)]
            bound += [node.name for node in nodes(tree, ast.FunctionDef, ast.ClassDef) if node.name != "__init__"]
            for one in bound:
                self.assertRegex(one, r"^[A-Za-z][A-Za-z0-9_]*$", name)
                self.assertFalse(hasattr(builtins, one), f"{name}: {one}")
            for node in nodes(tree, ast.Name):
                if hasattr(builtins, node.id):
                    self.assertIn(node.id, BUILT_IN, f"{name}: {node.lineno}")

    def test_methods(self):
        known = trees()
        own = [node.name for tree in known.values() for one in nodes(tree, ast.ClassDef)
               for node in nodes(one, ast.FunctionDef)]
        for name, tree in known.items():
            for node in nodes(tree, ast.Call):
                if isinstance(node.func, ast.Attribute):
                    self.assertIn(node.func.attr, METHODS + own, f"{name}: {node.lineno}")


if __name__ == "__main__":
    unittest.main()
