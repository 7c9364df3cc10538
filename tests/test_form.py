"""The form of the program's own files, as far as a walk through them can see it."""

import ast
import builtins
import re
import unittest
from pathlib import Path

PACKAGE = Path(__file__).resolve().parent.parent / "batterykeeper"

OWN_NAMES = set("""len range enumerate zip min max sum abs sorted reversed int str bool list tuple dict set frozenset
isinstance ord repr any all divmod Exception ValueError TypeError KeyError IndexError LookupError ZeroDivisionError
ArithmeticError OverflowError RuntimeError NotImplementedError""".split())

OWN_METHODS = set("""append clear copy count endswith extend find get index insert isalnum isalpha isdigit islower
isspace isupper items join keys ljust lower lstrip partition pop remove replace reverse rfind rjust rpartition rsplit
rstrip setdefault split splitlines startswith strip update upper values zfill bit_length""".split())

NODES = (
    ast.Module, ast.Expr, ast.ImportFrom, ast.alias, ast.FunctionDef, ast.ClassDef, ast.arguments, ast.arg, ast.Lambda,
    ast.Assign, ast.AugAssign, ast.If, ast.While, ast.For, ast.Return, ast.Break, ast.Continue, ast.Pass, ast.Constant,
    ast.Name, ast.Load, ast.Store, ast.Attribute, ast.Subscript, ast.Slice, ast.List, ast.Tuple, ast.Dict, ast.Call,
    ast.keyword, ast.BinOp, ast.UnaryOp, ast.BoolOp, ast.Compare, ast.IfExp, ast.ListComp, ast.comprehension,
    ast.operator, ast.unaryop, ast.boolop, ast.cmpop,
)

WORDS = re.compile(r"\b(type|typing|typing_extensions|enum|Enum|IntEnum|StrEnum|Flag|IntFlag|Generic|Protocol|ABC|"
                   r"ABCMeta|namedtuple|NamedTuple|TypedDict|TYPE_CHECKING|abstractmethod)\b|dataclass|overload|"
                   r"contextmanager")


def sources():
    return {path: path.read_text(encoding="utf-8") for path in sorted(PACKAGE.rglob("*.py"))}


def trees():
    return {path: ast.parse(text) for path, text in sources().items()}


def is_plain(node):
    if isinstance(node, ast.UnaryOp):
        return isinstance(node.op, ast.USub) and is_plain(node.operand)
    if isinstance(node, (ast.Tuple, ast.List)):
        return all(isinstance(part, (ast.Constant, ast.UnaryOp, ast.Tuple)) and is_plain(part) for part in node.elts)
    return isinstance(node, ast.Constant) and (node.value is None or isinstance(node.value, (int, str)))


class Form(unittest.TestCase):
    def check_nodes(self, check):
        for path, tree in trees().items():
            for node in ast.walk(tree):
                with self.subTest(file=path.name, line=getattr(node, "lineno", 0)):
                    check(node)

    def test_files(self):
        for path in PACKAGE.rglob("*"):
            if "__pycache__" not in path.parts:
                self.assertRegex(path.name, r"^(__init__|[a-z][a-z0-9_]*)\.py$")
        self.assertTrue((PACKAGE / "__init__.py").is_file())

    def test_signs_and_sizes(self):
        for path, text in sources().items():
            with self.subTest(file=path.name):
                self.assertRegex(text, r"\A[ -~\n]*\Z")
                self.assertLessEqual(text.count("\n"), 400)
                self.assertLessEqual(max(map(len, text.split("\n"))), 120)
                self.assertIsNone(WORDS.search(text))
        self.check_nodes(self.check_size)

    def check_size(self, node):
        if isinstance(node, ast.FunctionDef):
            self.assertLessEqual(node.end_lineno - node.lineno + 1, 40)

    def test_the_top_of_a_file(self):
        for path, tree in trees().items():
            bound = []
            for node in tree.body:
                with self.subTest(file=path.name, line=node.lineno):
                    if isinstance(node, ast.Assign):
                        self.assertTrue(is_plain(node.value))
                        bound.append(node.targets[0].id)
                    elif isinstance(node, ast.ImportFrom):
                        bound += [alias.name for alias in node.names]
                    elif isinstance(node, (ast.FunctionDef, ast.ClassDef)):
                        bound.append(node.name)
                    else:
                        self.assertIs(node, tree.body[0])
                        self.assertIsInstance(node.value.value, str)
            self.assertEqual(len(bound), len(set(bound)))

    def test_imports(self):
        drawn = {}
        for path, tree in trees().items():
            drawn[path.stem] = []
            for node in ast.walk(tree):
                if isinstance(node, ast.ImportFrom):
                    package, _, file = node.module.partition(".")
                    self.assertEqual((package, node.level), ("batterykeeper", 0))
                    drawn[path.stem].append(file)
                    own = [n.name if hasattr(n, "name") else n.targets[0].id
                           for n in ast.parse((PACKAGE / f"{file}.py").read_text()).body
                           if isinstance(n, (ast.FunctionDef, ast.ClassDef, ast.Assign))]
                    for alias in node.names:
                        self.assertIn(alias.name, own)
                        self.assertIsNone(alias.asname)
        while drawn:
            free = [name for name, others in drawn.items() if not set(others) & set(drawn)]
            self.assertTrue(free, f"these draw from one another: {drawn}")
            for name in free:
                drawn.pop(name)

    def test_statements_and_expressions(self):
        self.check_nodes(self.check_statement)
        self.check_nodes(self.check_expression)

    def check_statement(self, node):
        self.assertIsInstance(node, NODES)
        self.assertFalse(getattr(node, "decorator_list", []))
        if isinstance(node, ast.Assign):
            self.assertEqual(len(node.targets), 1)
        if isinstance(node, (ast.For, ast.While)):
            self.assertFalse(node.orelse)
        if isinstance(node, ast.arguments):
            self.assertFalse(node.vararg or node.kwarg or node.kwonlyargs or node.posonlyargs)

    def check_expression(self, node):
        if isinstance(node, ast.BinOp):
            self.assertNotIsInstance(node.op, (ast.Div, ast.MatMult))
        if isinstance(node, ast.BinOp) and isinstance(node.op, ast.Pow):
            self.assertTrue(0 <= node.right.value <= 64)
        if isinstance(node, ast.Constant):
            self.assertIn(type(node.value), (int, str, bool, type(None)))
        if isinstance(node, ast.ListComp):
            self.assertEqual(len(node.generators), 1)
            self.assertLessEqual(len(node.generators[0].ifs), 1)
        if isinstance(node, ast.Compare) and any(isinstance(op, (ast.Is, ast.IsNot)) for op in node.ops):
            self.assertIsInstance(node.comparators[0], ast.Constant)

    def test_names(self):
        self.check_nodes(self.check_name)

    def check_name(self, node):
        if isinstance(node, ast.Name) and isinstance(node.ctx, ast.Load) and hasattr(builtins, node.id):
            self.assertIn(node.id, OWN_NAMES)
        bound = []
        if isinstance(node, ast.Name) and isinstance(node.ctx, ast.Store):
            bound = [node.id]
        if isinstance(node, ast.arg):
            bound = [node.arg]
        if isinstance(node, (ast.FunctionDef, ast.ClassDef)) and node.name != "__init__":
            bound = [node.name]
        if isinstance(node, ast.Attribute):
            self.assertRegex(node.attr, r"^[a-z][a-z0-9_]*$")
        for name in bound:
            self.assertRegex(name, r"^[A-Za-z][A-Za-z0-9_]*$")
            self.assertFalse(hasattr(builtins, name), name)

    def test_methods(self):
        self.check_nodes(self.check_method)

    def check_method(self, node):
        if isinstance(node, ast.Call) and isinstance(node.func, ast.Attribute):
            self.assertIn(node.func.attr, OWN_METHODS)


if __name__ == "__main__":
    unittest.main()
