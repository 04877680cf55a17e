"""The rules of ../shared/LANGUAGE.md that can be seen in a file's text or its syntax tree."""

import ast
import builtins
import re
import unittest
from pathlib import Path

PACKAGE = Path(__file__).resolve().parent.parent / "middlerules"

# L8
OWN_NAMES = set(
    "len range enumerate zip min max sum abs sorted reversed int str bool list tuple dict set frozenset isinstance ord "
    "repr any all divmod Exception ValueError TypeError KeyError IndexError LookupError ZeroDivisionError "
    "ArithmeticError OverflowError RuntimeError NotImplementedError AttributeError StopIteration".split()
)
# L25
METHODS = set(
    "append clear copy count endswith extend find get index insert isalnum isalpha isdigit islower isspace isupper "
    "items join keys ljust lower lstrip partition pop remove replace reverse rfind rjust rpartition rsplit rstrip "
    "setdefault split splitlines startswith strip update upper values zfill bit_length".split()
)
# L17
WORDS = re.compile(
    r"\b(type|typing|typing_extensions|enum|Enum|IntEnum|StrEnum|Flag|IntFlag|Generic|Protocol|ABC|ABCMeta|namedtuple"
    r"|NamedTuple|TypedDict|TYPE_CHECKING|abstractmethod)\b|dataclass|overload|contextmanager"
)
NAMES = set("register mro elements open input version_info with_traceback add_note sys".split())
# L4, L6 and L7
NODES = (
    ast.Module, ast.ImportFrom, ast.alias, ast.FunctionDef, ast.ClassDef, ast.arguments, ast.arg, ast.Lambda,
    ast.Assign, ast.AugAssign, ast.If, ast.While, ast.For, ast.Return, ast.Break, ast.Continue, ast.Pass, ast.Raise,
    ast.Try, ast.ExceptHandler, ast.Expr, ast.Call, ast.keyword, ast.Constant, ast.List, ast.Tuple, ast.Dict, ast.Set,
    ast.Name, ast.Load, ast.Store, ast.Attribute, ast.Subscript, ast.Slice, ast.ListComp, ast.comprehension,
    ast.JoinedStr, ast.FormattedValue, ast.IfExp, ast.BinOp, ast.UnaryOp, ast.BoolOp, ast.Compare, ast.boolop,
    ast.cmpop, ast.unaryop, ast.operator,
)


def trees():
    return [(path, ast.parse(path.read_text())) for path in sorted(PACKAGE.glob("*.py"))]


def nodes(*kinds):
    return [(path, node) for path, tree in trees() for node in ast.walk(tree) if isinstance(node, kinds)]


def bound_names(tree):
    """All names that the file binds anywhere."""
    found = {node.id for node in ast.walk(tree) if isinstance(node, ast.Name) and isinstance(node.ctx, ast.Store)}
    for node in ast.walk(tree):
        if isinstance(node, (ast.FunctionDef, ast.ClassDef)):
            found.add(node.name)
        if isinstance(node, ast.arg):
            found.add(node.arg)
    return found


class Files(unittest.TestCase):
    def test_files(self):
        found = [path for path in PACKAGE.iterdir() if path.name != "__pycache__"]
        self.assertIn(PACKAGE / "__init__.py", found)
        for path in found:
            self.assertRegex(path.name, r"^(__init__|[a-z][a-z0-9_]*)\.py$")

    def test_signs_and_lines(self):
        for path, _ in trees():
            text = path.read_text()
            self.assertRegex(text, r"\A[ -~\n]*\Z")
            self.assertLessEqual(len(text.splitlines()), 399)
            self.assertLessEqual(max(map(len, text.splitlines())), 120, path)
            self.assertIsNone(WORDS.search(text), path)

    def test_size_of_functions(self):
        for path, node in nodes(ast.FunctionDef):
            self.assertLessEqual(node.end_lineno - node.lineno + 1, 40, (path, node.name))

    def test_top_of_a_file(self):
        for path, tree in trees():
            self.assertTrue(ast.get_docstring(tree), path)
            for node in tree.body[1:]:
                self.assertIsInstance(node, (ast.ImportFrom, ast.FunctionDef, ast.ClassDef, ast.Assign), path)
                if isinstance(node, ast.Assign):
                    ast.literal_eval(node.value)


class Names(unittest.TestCase):
    def test_imports(self):
        drawn = {}
        for path, node in nodes(ast.ImportFrom):
            self.assertRegex(node.module, r"^middlerules\.[a-z_]+$")
            self.assertTrue((PACKAGE / f"{node.module.split('.')[1]}.py").exists())
            drawn.setdefault(path.stem, set()).add(node.module.split(".")[1])
            for alias in node.names:
                self.assertNotIn("*", alias.name)
                self.assertIsNone(alias.asname)
        while drawn:
            free = [name for name in drawn if not drawn[name] & set(drawn)]
            self.assertTrue(free, "files draw from one another")
            for name in free:
                drawn.pop(name)

    def test_names_of_python(self):
        for path, tree in trees():
            imported = {a.name for node in ast.walk(tree) if isinstance(node, ast.ImportFrom) for a in node.names}
            known = bound_names(tree) | imported | OWN_NAMES
            for node in ast.walk(tree):
                if isinstance(node, ast.Name):
                    self.assertIn(node.id, known, path)

    def test_names_that_are_bound(self):
        for path, tree in trees():
            for name in bound_names(tree) - {"__init__"}:
                self.assertRegex(name, r"^[A-Za-z][A-Za-z0-9_]*$", path)
                self.assertNotIn(name, dir(builtins), path)
                self.assertNotIn(name, NAMES, path)

    def test_locals_are_not_called_like_imports_or_classes(self):
        for path, tree in trees():
            taken = {a.name for node in ast.walk(tree) if isinstance(node, ast.ImportFrom) for a in node.names}
            taken |= {node.name for node in ast.walk(tree) if isinstance(node, ast.ClassDef)}
            found = {node.arg for node in ast.walk(tree) if isinstance(node, ast.arg)}
            found |= {n.id for n in ast.walk(tree) if isinstance(n, ast.Name) and isinstance(n.ctx, ast.Store)}
            self.assertFalse(found & taken, path)

    def test_methods(self):
        own = {node.name for _, node in nodes(ast.FunctionDef)}
        values = {node.attr for _, node in nodes(ast.Attribute) if isinstance(node.ctx, ast.Store)}
        for path, node in nodes(ast.Call):
            if isinstance(node.func, ast.Attribute):
                self.assertIn(node.func.attr, own | METHODS, path)
        self.assertFalse(values & own)
        self.assertFalse(values & NAMES)


class Syntax(unittest.TestCase):
    def test_kinds_of_nodes(self):
        for path, node in nodes(ast.AST):
            place = (path, getattr(node, "lineno", None))
            self.assertIsInstance(node, NODES, place)
            self.assertNotIsInstance(node, (ast.Div, ast.MatMult), place)
            if isinstance(node, ast.Constant):
                self.assertIn(type(node.value), (int, str, bool, type(None)), place)

    def test_forms(self):
        for path, node in nodes(ast.AST):
            place = (path, getattr(node, "lineno", None))
            if isinstance(node, ast.Assign):
                self.assertEqual(len(node.targets), 1, place)
            if isinstance(node, (ast.For, ast.While)):
                self.assertFalse(node.orelse, place)
            if isinstance(node, ast.ListComp):
                self.assertEqual(len(node.generators), 1, place)
                self.assertLessEqual(len(node.generators[0].ifs), 1, place)
            if isinstance(node, (ast.FunctionDef, ast.ClassDef)):
                self.assertFalse(node.decorator_list, place)
            if isinstance(node, ast.arguments):
                self.assertFalse(node.vararg or node.kwarg or node.kwonlyargs or node.posonlyargs, place)

    def test_is_stands_beside_none_true_and_false(self):
        for path, node in nodes(ast.Compare):
            for operator, right in zip(node.ops, node.comparators):
                if isinstance(operator, (ast.Is, ast.IsNot)):
                    self.assertIsInstance(right, ast.Constant, (path, node.lineno))

    def test_sets_are_put_in_order_at_once(self):
        # Narrower than L24, but all that this program needs.
        first_arguments = [ast.dump(node.args[0]) for _, node in self.calls_of("sorted", "len")]
        for path, node in self.calls_of("set", "frozenset"):
            self.assertIn(ast.dump(node), first_arguments, (path, node.lineno))

    def calls_of(self, *names):
        return [(path, node) for path, node in nodes(ast.Call) if getattr(node.func, "id", None) in names]

    def test_answers_is_a_plain_function_of_steps(self):
        found = [(path.name, node) for path, node in nodes(ast.FunctionDef) if node.name == "answers"]
        self.assertEqual([name for name, _ in found], ["steps.py"])
        self.assertEqual([argument.arg for argument in found[0][1].args.args], ["calls"])
        self.assertFalse(found[0][1].args.defaults)


if __name__ == "__main__":
    unittest.main()
