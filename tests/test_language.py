"""The form of the package's files: the part of ../shared/LANGUAGE.md that can be read off them simply."""

import ast
import builtins
import pathlib
import re
import unittest

PACKAGE = pathlib.Path(__file__).resolve().parent.parent / "curvekeys"

NODES = """Module Expr Constant FunctionDef arguments arg Return Assign AugAssign If While For Break Continue Pass
    Name Load Store Tuple List Dict BinOp UnaryOp BoolOp Compare IfExp Call Attribute Subscript Slice
    ListComp comprehension Add Sub Mult FloorDiv Mod Pow LShift RShift BitOr BitXor BitAnd Invert USub Not And Or
    Eq NotEq Lt LtE Gt GtE Is IsNot In NotIn""".split()

BUILTINS = """len range enumerate zip min max sum abs sorted reversed int str bool list tuple dict set frozenset
    isinstance ord repr any all divmod""".split()

METHODS = """append clear copy count endswith extend find get index insert items join keys pop remove replace
    reverse setdefault update values bit_length""".split()

WORDS = re.compile(r"\b(type|typing|typing_extensions|enum|Enum|IntEnum|StrEnum|Flag|IntFlag|Generic|Protocol|ABC"
                   r"|ABCMeta|namedtuple|NamedTuple|TypedDict|TYPE_CHECKING|abstractmethod)\b"
                   r"|dataclass|overload|contextmanager")

TOP = (ast.FunctionDef, ast.Assign)


def files():
    return sorted(PACKAGE.glob("*.py"))


def nodes(kind):
    for path in files():
        for node in ast.walk(ast.parse(path.read_text("utf-8"))):
            if isinstance(node, kind):
                yield node, f"{path.name}:{getattr(node, 'lineno', 0)}"


class LanguageTest(unittest.TestCase):
    def test_files(self):
        names = sorted(path.name for path in PACKAGE.iterdir() if path.name != "__pycache__")
        self.assertEqual(names, [path.name for path in files()])
        self.assertIn("__init__.py", names)
        self.assertIn("keys.py", names)

    def test_rows(self):
        for path in files():
            text = path.read_bytes()
            self.assertTrue(all(sign == 10 or 32 <= sign <= 126 for sign in text), path.name)
            rows = text.decode("ascii").split("\n")
            self.assertLessEqual(len(rows), 400, path.name)
            self.assertLessEqual(max(len(row) for row in rows), 120, path.name)
            self.assertIsNone(WORDS.search(text.decode("ascii")), path.name)

    def test_kinds_of_code(self):
        # No import among them: the document asks for none.
        for node, where in nodes(ast.AST):
            self.assertIn(node.__class__.__name__, NODES, where)

    def test_functions(self):
        for node, where in nodes(ast.FunctionDef):
            self.assertLessEqual(node.end_lineno - node.lineno + 1, 40, where)
            self.assertFalse(node.decorator_list or node.args.vararg or node.args.kwarg, where)
            self.assertFalse(node.args.kwonlyargs or node.args.posonlyargs, where)

    def test_assignments(self):
        for node, where in nodes(ast.Assign):
            self.assertEqual(len(node.targets), 1, where)
            self.assertNotIsInstance(node.targets[0], (ast.Tuple, ast.List), where)

    def test_values(self):
        for node, where in nodes(ast.Constant):
            self.assertIn(type(node.value), (int, str, bool, type(None)), where)

    def test_names(self):
        own = set(dir(builtins))
        for node, where in nodes((ast.Name, ast.arg, ast.FunctionDef)):
            name = getattr(node, "id", None) or getattr(node, "arg", None) or node.name
            self.assertRegex(name, r"\A[A-Za-z][A-Za-z0-9_]*\Z", where)
            read = isinstance(node, ast.Name) and isinstance(node.ctx, ast.Load)
            if name in own:
                self.assertTrue(read and name in BUILTINS, where + " " + name)

    def test_methods(self):
        for node, where in nodes(ast.Attribute):
            self.assertIn(node.attr, METHODS, where)

    def test_powers_and_is(self):
        for node, where in nodes(ast.BinOp):
            if isinstance(node.op, ast.Pow):
                self.assertTrue(isinstance(node.right, ast.Constant) and 0 <= node.right.value <= 64, where)
        for node, where in nodes(ast.Compare):
            if isinstance(node.ops[0], (ast.Is, ast.IsNot)):
                self.assertIsInstance(node.comparators[0], ast.Constant, where)

    def test_top_of_a_file(self):
        for module, where in nodes(ast.Module):
            bound = [node.name if isinstance(node, ast.FunctionDef) else node.targets[0].id
                     for node in module.body if isinstance(node, TOP)]
            self.assertEqual(len(bound), len(set(bound)), where)
            for node in module.body[1:]:
                self.assertIsInstance(node, TOP, where)


if __name__ == "__main__":
    unittest.main()
