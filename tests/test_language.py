"""The package keeps to the part of Python that is asked for, so far as a look at its files can tell."""

import ast
import builtins
import re
import unittest
from pathlib import Path

PACKAGE = Path(__file__).resolve().parent.parent / "signclues"
FILES = sorted(PACKAGE.rglob("*.py"))

OWN_NAMES = set("""len range enumerate zip min max sum abs sorted reversed int str bool list tuple dict set frozenset
isinstance ord repr any all divmod Exception ValueError TypeError KeyError IndexError LookupError ZeroDivisionError
ArithmeticError OverflowError RuntimeError NotImplementedError AttributeError StopIteration""".split())

METHODS = set("""append clear copy count endswith extend find get index insert isalnum isalpha isdigit islower isspace
isupper items join keys ljust lower lstrip partition pop remove replace reverse rfind rjust rpartition rsplit rstrip
setdefault split splitlines startswith strip update upper values zfill bit_length""".split())

WORDS = set("""type typing typing_extensions enum Enum IntEnum StrEnum Flag IntFlag Generic Protocol ABC ABCMeta
namedtuple NamedTuple TypedDict TYPE_CHECKING abstractmethod""".split())

UNUSED = set("register mro elements open input version_info with_traceback add_note".split())

NODES = (
    ast.Module, ast.ImportFrom, ast.alias, ast.FunctionDef, ast.ClassDef, ast.arguments, ast.arg, ast.Lambda,
    ast.Assign, ast.AugAssign, ast.If, ast.While, ast.For, ast.Return, ast.Break, ast.Continue, ast.Pass, ast.Raise,
    ast.Try, ast.ExceptHandler, ast.Expr, ast.Constant, ast.List, ast.Tuple, ast.Dict, ast.Set, ast.Name,
    ast.Attribute, ast.Subscript, ast.Slice, ast.Call, ast.keyword, ast.BinOp, ast.UnaryOp, ast.BoolOp, ast.Compare,
    ast.IfExp, ast.ListComp, ast.comprehension, ast.JoinedStr, ast.FormattedValue, ast.expr_context, ast.operator,
    ast.unaryop, ast.boolop, ast.cmpop,
)


def trees():
    return [(path.name, ast.parse(path.read_text())) for path in FILES]


def nodes(*kinds):
    for name, tree in trees():
        for node in ast.walk(tree):
            if isinstance(node, kinds):
                yield name, node


def where(name, node):
    return f"{name}:{getattr(node, 'lineno', 0)}: {ast.dump(node)[:200]}"


class Files(unittest.TestCase):
    def test_only_python_files_with_plain_names(self):
        for path in PACKAGE.rglob("*"):
            if "__pycache__" not in path.parts:
                self.assertRegex(path.name, r"^([a-z][a-z0-9_]*|__init__)\.py$")
        self.assertIn("desk.py", [path.name for path in FILES])

    def test_signs_and_sizes(self):
        for path in FILES:
            text = path.read_bytes().decode("ascii")
            self.assertNotRegex(text, r"[^ -~\n]", path.name)
            lines = text.split("\n")
            self.assertLessEqual(len(lines), 400, path.name)
            self.assertLessEqual(max(len(line) for line in lines), 120, path.name)

    def test_words_that_stand_nowhere(self):
        for path in FILES:
            text = path.read_text()
            self.assertEqual(set(), WORDS & set(re.findall(r"\w+", text)), path.name)
            self.assertNotRegex(text, "dataclass|overload|contextmanager", path.name)

    def test_short_functions(self):
        for name, node in nodes(ast.FunctionDef):
            self.assertLessEqual(node.end_lineno - node.lineno + 1, 40, where(name, node))


class Forms(unittest.TestCase):
    def test_no_other_form(self):
        for name, tree in trees():
            for node in ast.walk(tree):
                self.assertIsInstance(node, NODES, where(name, node))

    def test_top_of_a_file(self):
        for name, tree in trees():
            for node in tree.body[1:]:
                self.assertIsInstance(node, (ast.ImportFrom, ast.FunctionDef, ast.ClassDef, ast.Assign), name)
            self.assertIsNotNone(ast.get_docstring(tree), name)

    def test_imports_are_from_the_defining_file(self):
        defined = {}
        for name, tree in trees():
            defined[name] = [node.name for node in tree.body if isinstance(node, (ast.FunctionDef, ast.ClassDef))]
            defined[name] += [node.targets[0].id for node in tree.body if isinstance(node, ast.Assign)]
            self.assertEqual(len(defined[name]), len(set(defined[name])), name)
        for name, node in nodes(ast.ImportFrom):
            self.assertRegex(node.module, r"^signclues\.[a-z]+$", where(name, node))
            for drawn in node.names:
                self.assertIsNone(drawn.asname)
                self.assertIn(drawn.name, defined[node.module.split(".")[1] + ".py"], where(name, node))

    def test_plain_functions_and_classes(self):
        for name, node in nodes(ast.FunctionDef, ast.ClassDef):
            self.assertEqual([], node.decorator_list, where(name, node))
        for name, node in nodes(ast.arguments):
            self.assertTrue(not node.vararg and not node.kwarg and not node.kwonlyargs and not node.posonlyargs)
        for name, node in nodes(ast.ClassDef):
            self.assertLessEqual(len(node.bases), 1, where(name, node))

    def test_assignments_and_loops(self):
        for name, node in nodes(ast.Assign):
            self.assertEqual(1, len(node.targets), where(name, node))
            self.assertIsInstance(node.targets[0], (ast.Name, ast.Attribute, ast.Subscript), where(name, node))
        for name, node in nodes(ast.For, ast.While):
            self.assertEqual([], node.orelse, where(name, node))
        for name, node in nodes(ast.ListComp):
            self.assertEqual(1, len(node.generators), where(name, node))
            self.assertLessEqual(len(node.generators[0].ifs), 1, where(name, node))

    def test_operators(self):
        for name, node in nodes(ast.Div, ast.Pow, ast.MatMult):
            self.fail(where(name, node))
        for name, node in nodes(ast.Compare):
            for operator, other in zip(node.ops, node.comparators):
                if isinstance(operator, (ast.Is, ast.IsNot)):
                    self.assertIn(ast.dump(other), [ast.dump(ast.Constant(plain)) for plain in (None, True, False)])

    def test_plain_constants(self):
        for name, node in nodes(ast.Constant):
            self.assertIn(type(node.value), (int, str, bool, type(None)), where(name, node))


class Names(unittest.TestCase):
    def test_names(self):
        foreign = set(dir(builtins)) - OWN_NAMES
        for name, node in nodes(ast.Name):
            self.assertNotIn(node.id, foreign | UNUSED, where(name, node))
            self.assertFalse(node.id.startswith("_"), where(name, node))
            if isinstance(node.ctx, ast.Store):
                self.assertNotIn(node.id, dir(builtins), where(name, node))
        for name, node in nodes(ast.arg):
            self.assertNotIn(node.arg, dir(builtins), where(name, node))
            self.assertIsNone(node.annotation, where(name, node))

    def test_methods_and_values_of_objects(self):
        methods = set()
        stored = set()
        for name, node in nodes(ast.ClassDef):
            methods |= set(part.name for part in node.body if isinstance(part, ast.FunctionDef))
        for name, node in nodes(ast.Attribute):
            if isinstance(node.ctx, ast.Store):
                stored.add(node.attr)
        self.assertEqual(set(), methods & stored)
        for kind in (str, int, list, dict, set, bytes):
            self.assertEqual(set(), ((methods - {"__init__"}) | stored) & set(dir(kind)))
        for name, node in nodes(ast.Attribute):
            self.assertIn(node.attr, METHODS | methods | stored, where(name, node))

    def test_locals_are_not_called_like_imports_or_classes(self):
        for name, tree in trees():
            taken = set(drawn.name for node in tree.body if isinstance(node, ast.ImportFrom) for drawn in node.names)
            taken |= set(node.name for node in tree.body if isinstance(node, ast.ClassDef))
            for node in ast.walk(tree):
                if isinstance(node, ast.Name) and isinstance(node.ctx, ast.Store):
                    self.assertNotIn(node.id, taken, where(name, node))
                if isinstance(node, ast.arg):
                    self.assertNotIn(node.arg, taken, where(name, node))


if __name__ == "__main__":
    unittest.main()
