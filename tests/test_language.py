"""The package keeps to the small part of Python that it is written in: what can be seen of that in its text."""

import ast
import builtins
import pathlib
import re
import unittest

PACKAGE = pathlib.Path(__file__).resolve().parent.parent / "takenapart"

NODES = (
    "Module FunctionDef ClassDef Return Assign AugAssign For While If Raise Try ExceptHandler Import ImportFrom Expr "
    "Pass Break Continue BoolOp BinOp UnaryOp Lambda IfExp Dict Set ListComp comprehension Compare Call JoinedStr "
    "FormattedValue Constant Attribute Subscript Name List Tuple Slice arguments arg keyword alias Load Store And Or "
    "Add Sub Mult FloorDiv Mod Pow LShift RShift BitOr BitXor BitAnd Invert Not UAdd USub Eq NotEq Lt LtE Gt GtE Is "
    "IsNot In NotIn").split()
OWN_NAMES = (
    "len range enumerate zip min max sum abs sorted reversed int str bool list tuple dict set frozenset isinstance ord "
    "repr any all divmod Exception ValueError TypeError KeyError IndexError LookupError ZeroDivisionError "
    "ArithmeticError OverflowError RuntimeError NotImplementedError AttributeError StopIteration").split()
METHODS = (
    "append clear copy count endswith extend find get index insert isalnum isalpha isdigit islower isspace isupper "
    "items join keys ljust lower lstrip partition pop remove replace reverse rfind rjust rpartition rsplit rstrip "
    "setdefault split splitlines startswith strip update upper values zfill bit_length").split()
NOWHERE = (
    "type typing typing_extensions enum Enum IntEnum StrEnum Flag IntFlag Generic Protocol ABC ABCMeta namedtuple "
    "NamedTuple TypedDict TYPE_CHECKING abstractmethod").split()


def package_files():
    return sorted(PACKAGE.rglob("*.py"))


def nodes(*kinds):
    for path in package_files():
        for node in ast.walk(ast.parse(path.read_text())):
            if isinstance(node, kinds):
                yield path.name, node


class Text(unittest.TestCase):
    def test_there_are_files(self):
        self.assertIn(PACKAGE / "desk.py", package_files())
        self.assertIn(PACKAGE / "__init__.py", package_files())

    def test_nothing_but_plain_files(self):
        for path in PACKAGE.rglob("*"):
            if "__pycache__" not in path.parts:
                self.assertRegex(path.name, r"^([a-z0-9_]+\.py|[a-z0-9_]+)$")
                self.assertNotIn(path.stem, dir(builtins))

    def test_signs_and_sizes(self):
        for path in package_files():
            text = path.read_text()
            self.assertRegex(text, r"\A[ -~\n]*\Z", path.name)
            self.assertLessEqual(len(text.splitlines()), 400, path.name)
            self.assertLessEqual(max(len(line) for line in text.splitlines()), 120, path.name)

    def test_words_that_stand_nowhere(self):
        for path in package_files():
            words = re.findall(r"\w+", path.read_text())
            self.assertEqual([word for word in words if word in NOWHERE], [], path.name)


class Tree(unittest.TestCase):
    def test_kinds_of_nodes(self):
        for name, node in nodes(ast.AST):
            self.assertIn(node.__class__.__name__, NODES, name)

    def test_constants(self):
        for name, node in nodes(ast.Constant):
            self.assertIn(type(node.value), (int, str, bool, type(None)), (name, node.value))

    def test_functions_are_short_and_plain(self):
        for name, node in nodes(ast.FunctionDef):
            self.assertLessEqual(node.end_lineno - node.lineno + 1, 40, (name, node.name))
            self.assertEqual(node.decorator_list, [], (name, node.name))
            kept = node.args
            self.assertFalse(kept.vararg or kept.kwarg or kept.kwonlyargs or kept.posonlyargs, (name, node.name))

    def test_one_target(self):
        for name, node in nodes(ast.Assign):
            self.assertEqual(len(node.targets), 1, (name, node.lineno))

    def test_text_by_itself_stands_at_a_file_s_top_alone(self):
        for path in package_files():
            tree = ast.parse(path.read_text())
            self.assertIsNotNone(ast.get_docstring(tree), path.name)
            for node in ast.walk(tree):
                if isinstance(node, ast.Expr) and node is not tree.body[0]:
                    self.assertIsInstance(node.value, ast.Call, (path.name, node.lineno))

    def test_values_at_a_file_s_top_are_plain(self):
        for path in package_files():
            for node in ast.parse(path.read_text()).body:
                if isinstance(node, ast.Assign):
                    self.assertIsNotNone(ast.literal_eval(node.value), (path.name, node.lineno))

    def test_exponents_are_written(self):
        for name, node in nodes(ast.BinOp):
            if isinstance(node.op, ast.Pow):
                self.assertIsInstance(node.right, ast.Constant, (name, node.lineno))
                self.assertIn(node.right.value, range(65), (name, node.lineno))

    def test_names_that_are_bound(self):
        for name, node in nodes(ast.Name, ast.arg, ast.FunctionDef, ast.ClassDef):
            if isinstance(node, ast.Name) and isinstance(node.ctx, ast.Load):
                continue
            bound = getattr(node, "id", None) or getattr(node, "arg", None) or node.name
            self.assertNotIn(bound, dir(builtins), (name, node.lineno))
            if bound != "__init__":
                self.assertRegex(bound, r"^[A-Za-z][A-Za-z0-9_]*$", (name, node.lineno))

    def test_names_of_python_s_own(self):
        for name, node in nodes(ast.Name):
            if node.id in dir(builtins):
                self.assertIn(node.id, OWN_NAMES, (name, node.lineno))

    def test_methods(self):
        own = [node.name for name, node in nodes(ast.FunctionDef)]
        for name, node in nodes(ast.Call):
            if isinstance(node.func, ast.Attribute):
                self.assertIn(node.func.attr, METHODS + own, (name, node.lineno))


class Imports(unittest.TestCase):
    def test_from_the_package_alone_and_the_file_that_defines_it(self):
        for name, node in nodes(ast.Import, ast.ImportFrom):
            self.assertIsInstance(node, ast.ImportFrom, name)
            self.assertRegex(node.module, r"^takenapart\.[a-z0-9_]+$", name)
            drawn = ast.parse((PACKAGE / (node.module.split(".")[1] + ".py")).read_text())
            defined = [part.name for part in drawn.body if isinstance(part, (ast.FunctionDef, ast.ClassDef))]
            for alias in node.names:
                self.assertIn(alias.name, defined, name)

    def test_no_local_is_called_like_an_import(self):
        for path in package_files():
            tree = ast.parse(path.read_text())
            drawn = [a.name for node in tree.body if isinstance(node, ast.ImportFrom) for a in node.names]
            bound = [n.id for n in ast.walk(tree) if isinstance(n, ast.Name) and isinstance(n.ctx, ast.Store)]
            bound += [n.arg for n in ast.walk(tree) if isinstance(n, ast.arg)]
            self.assertEqual(sorted(set(drawn) & set(bound)), [], path.name)

    def test_no_circle(self):
        drawn = {path.stem: set() for path in package_files()}
        for name, node in nodes(ast.ImportFrom):
            drawn[name[:-3]].add(node.module.split(".")[1])
        while drawn:
            free = [name for name in drawn if not drawn[name] & set(drawn)]
            self.assertNotEqual(free, [], drawn)
            for name in free:
                del drawn[name]


if __name__ == "__main__":
    unittest.main()
