"""The package keeps to its part of the language, as far as a look at its code can tell."""

import ast
import builtins
import pathlib
import re
import unittest

PACKAGE = pathlib.Path(__file__).resolve().parent.parent / "pinballs"
FILES = sorted(path for path in PACKAGE.iterdir() if path.name != "__pycache__")
TREES = {path: ast.parse(path.read_text()) for path in FILES}

ALLOWED_NODES = (
    "Module Expr Constant ImportFrom alias FunctionDef ClassDef arguments arg Return Assign AugAssign "
    "If While For Break Continue Pass Raise Try ExceptHandler Call Attribute Subscript Slice Name Load Store "
    "List Tuple Dict ListComp comprehension BinOp UnaryOp BoolOp Compare IfExp Lambda JoinedStr FormattedValue "
    "Add Sub Mult FloorDiv Mod Pow LShift RShift BitAnd BitOr BitXor Invert USub Not And Or "
    "Eq NotEq Lt LtE Gt GtE Is IsNot In NotIn"
).split()
ALLOWED_BUILTINS = (
    "len range enumerate zip min max sum abs sorted reversed int str bool list tuple dict set frozenset isinstance "
    "ord repr any all divmod Exception ValueError TypeError KeyError IndexError LookupError ZeroDivisionError "
    "ArithmeticError OverflowError RuntimeError NotImplementedError StopIteration"
).split()
ALLOWED_METHODS = (
    "append clear copy count endswith extend find get index insert isalnum isalpha isdigit islower isspace isupper "
    "items join keys ljust lower lstrip partition pop remove replace reverse rfind rjust rpartition rsplit rstrip "
    "setdefault split splitlines startswith strip update upper values zfill bit_length"
).split()
BARRED_WORDS = (
    "type typing typing_extensions enum Enum IntEnum StrEnum Flag IntFlag Generic Protocol ABC ABCMeta namedtuple "
    "NamedTuple TypedDict TYPE_CHECKING abstractmethod"
).split()
BARRED_NAMES = (
    "register mro elements open input version_info with_traceback add_note compile dir eval exec exit format "
    "getattr globals hasattr hash help id license locals map next os quit setattr super sys type vars"
).split()
OWN_METHODS_OF_PYTHON = {name for kind in (str, int, list, dict, set, bytes) for name in dir(kind)}
VALUES_OF_PYTHONS_NAME = "count index title find get join lower upper split strip copy add".split()


def nodes():
    for path, tree in TREES.items():
        for node in ast.walk(tree):
            yield path.name, node


def own_methods():
    return {part.name for name, node in nodes() if isinstance(node, ast.ClassDef)
            for part in node.body if isinstance(part, ast.FunctionDef) and part.name != "__init__"}


def own_values():
    return {node.attr for name, node in nodes() if isinstance(node, ast.Attribute) and isinstance(node.ctx, ast.Store)}


class Files(unittest.TestCase):
    def test_names_of_files(self):
        for path in FILES:
            self.assertRegex(path.name, r"^([a-z][a-z0-9_]*|__init__)\.py$")
            self.assertNotIn(path.stem, dir(builtins))

    def test_size_and_signs(self):
        for path in FILES:
            text = path.read_bytes().decode("ascii")
            lines = text.split("\n")
            self.assertLessEqual(len(lines), 401)
            self.assertLessEqual(max(len(line) for line in lines), 120)
            self.assertIsNone(re.search(r"[^ -~\n]", text))

    def test_words_that_stand_nowhere(self):
        for path in FILES:
            words = re.findall(r"\w+", path.read_text())
            self.assertEqual([word for word in words if word in BARRED_WORDS], [])
            self.assertIsNone(re.search("dataclass|overload|contextmanager", path.read_text()))


class Code(unittest.TestCase):
    def test_statements_and_expressions(self):
        for name, node in nodes():
            self.assertIn(type(node).__name__, ALLOWED_NODES, name)

    def test_imports(self):
        for name, node in nodes():
            if isinstance(node, ast.ImportFrom):
                self.assertEqual(node.level, 0)
                self.assertIn(node.module, [f"pinballs.{path.stem}" for path in FILES], name)
                tree = TREES[PACKAGE / (node.module.split(".")[1] + ".py")]
                defined = [part.name for part in tree.body if isinstance(part, (ast.FunctionDef, ast.ClassDef))]
                for part in node.names:
                    self.assertIsNone(part.asname)
                    self.assertIn(part.name, defined)

    def test_functions(self):
        for name, node in nodes():
            if isinstance(node, ast.FunctionDef):
                self.assertLessEqual(node.end_lineno - node.lineno + 1, 40, node.name)
                self.assertEqual(node.decorator_list, [])
                self.assertIsNone(node.args.vararg or node.args.kwarg or node.returns)
                self.assertEqual(node.args.kwonlyargs, [])
                for part in node.args.args:
                    self.assertNotIn(part.arg, dir(builtins))

    def test_assignments(self):
        for name, node in nodes():
            if isinstance(node, ast.Assign):
                self.assertEqual(len(node.targets), 1)
                self.assertNotIsInstance(node.targets[0], (ast.Tuple, ast.List))
            if isinstance(node, (ast.For, ast.While)):
                self.assertEqual(node.orelse, [])
            if isinstance(node, ast.Try):
                self.assertEqual(node.finalbody, [])

    def test_names(self):
        for name, node in nodes():
            if isinstance(node, ast.Name):
                self.assertFalse(node.id.startswith("_"), node.id)
                self.assertNotIn(node.id, BARRED_NAMES)
                if node.id in dir(builtins):
                    self.assertIn(node.id, ALLOWED_BUILTINS)
                    self.assertIsInstance(node.ctx, ast.Load)

    def test_methods_of_pythons_values(self):
        known = own_methods() | own_values() | set(ALLOWED_METHODS)
        for name, node in nodes():
            if isinstance(node, ast.Attribute):
                self.assertIn(node.attr, known)
                self.assertNotIn(node.attr, BARRED_NAMES)

    def test_own_methods_and_values(self):
        self.assertEqual(own_methods() & own_values(), set())
        self.assertEqual(own_methods() & OWN_METHODS_OF_PYTHON, set())
        self.assertEqual((own_values() & OWN_METHODS_OF_PYTHON) - set(VALUES_OF_PYTHONS_NAME), set())

    def test_numbers_and_texts(self):
        for name, node in nodes():
            if isinstance(node, ast.Constant):
                self.assertIn(type(node.value), (int, str, bool, type(None)))
                if isinstance(node.value, str):
                    self.assertNotIn("%", node.value)
            if isinstance(node, ast.BinOp) and isinstance(node.op, ast.Pow):
                self.assertIsInstance(node.right, ast.Constant)

    def test_the_top_of_a_file(self):
        for path, tree in TREES.items():
            bound = []
            for part in tree.body:
                if isinstance(part, ast.Assign):
                    bound.append(part.targets[0].id)
                elif isinstance(part, (ast.FunctionDef, ast.ClassDef)):
                    bound.append(part.name)
                elif isinstance(part, ast.ImportFrom):
                    bound += [name.name for name in part.names]
                else:
                    self.assertIsInstance(part.value, ast.Constant)
            self.assertEqual(len(bound), len(set(bound)), path.name)


if __name__ == "__main__":
    unittest.main()
