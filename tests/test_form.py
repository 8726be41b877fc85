"""The form of the code: what of LANGUAGE.md (L1 to L28) can be seen in the package's files one by one."""

import ast
import builtins
import re
import unittest
from pathlib import Path

PACKAGE = Path(__file__).resolve().parent.parent / "saymessages"
FILES = sorted(PACKAGE.glob("*.py"))

OWN_NAMES = set("""len range enumerate zip min max sum abs sorted reversed int str bool list tuple dict set frozenset
    isinstance ord repr any all divmod Exception ValueError TypeError KeyError IndexError LookupError
    ZeroDivisionError ArithmeticError OverflowError RuntimeError NotImplementedError AttributeError
    StopIteration""".split())
METHODS = set("""append clear copy count endswith extend find get index insert isalnum isalpha isdigit islower isspace
    isupper items join keys ljust lower lstrip partition pop remove replace reverse rfind rjust rpartition rsplit
    rstrip setdefault split splitlines startswith strip update upper values zfill bit_length""".split())
SPECIAL_METHODS = {"__init__", "__eq__", "__repr__", "__str__", "__len__"}
NOT_AS_VALUES = set("""items keys values pop update append clear extend insert remove reverse setdefault sort args
    encode format""".split())
NOT_AT_ALL = re.compile(r"\b(type|typing|typing_extensions|enum|Enum|IntEnum|StrEnum|Flag|IntFlag|Generic|Protocol|ABC|"
                        r"ABCMeta|namedtuple|NamedTuple|TypedDict|TYPE_CHECKING|abstractmethod)\b"
                        r"|dataclass|overload|contextmanager")
NODES = (
    ast.Module, ast.Expr, ast.FunctionDef, ast.arguments, ast.arg, ast.ClassDef, ast.ImportFrom, ast.alias,
    ast.Assign, ast.AugAssign, ast.If, ast.While, ast.For, ast.Return, ast.Break, ast.Continue, ast.Pass, ast.Raise,
    ast.Try, ast.ExceptHandler, ast.Call, ast.Constant, ast.List, ast.Tuple, ast.Dict, ast.BinOp, ast.UnaryOp,
    ast.BoolOp, ast.Compare, ast.IfExp, ast.Attribute, ast.Name, ast.Subscript, ast.Slice, ast.ListComp,
    ast.comprehension, ast.Lambda, ast.JoinedStr, ast.FormattedValue, ast.keyword, ast.expr_context, ast.operator,
    ast.unaryop, ast.boolop, ast.cmpop,
)


def trees():
    return [(path.name, ast.parse(path.read_text())) for path in FILES]


def nodes(*kinds):
    return [(name, node) for name, tree in trees() for node in ast.walk(tree) if isinstance(node, kinds)]


def is_plain(node):
    if isinstance(node, (ast.Tuple, ast.List)):
        return all(is_plain(one) for one in node.elts)
    if isinstance(node, ast.Dict):
        return all(is_plain(one) for one in node.keys + node.values)
    return isinstance(node, (ast.Constant, ast.Name))


class Form(unittest.TestCase):
    def test_files(self):
        self.assertTrue((PACKAGE / "__init__.py").exists() and (PACKAGE / "kit.py").exists())
        for path in PACKAGE.iterdir():
            if path.name != "__pycache__":
                self.assertRegex(path.name, r"\A[a-z0-9_]+\.py\Z")
                self.assertNotIn(path.stem, dir(builtins))

    def test_signs_and_sizes(self):
        for path in FILES:
            lines = path.read_text().split("\n")
            self.assertLessEqual(len(lines), 400, path.name)
            for line in lines:
                self.assertRegex(line, r"\A[ -~]{0,120}\Z")
                self.assertIsNone(NOT_AT_ALL.search(line), line)
        for name, node in nodes(ast.FunctionDef):
            self.assertLessEqual(node.end_lineno - node.lineno + 1, 40, node.name)

    def test_statements_and_expressions(self):
        for name, tree in trees():
            for node in ast.walk(tree):
                self.assertIsInstance(node, NODES, name)
        for name, node in nodes(ast.Constant):
            self.assertIn(type(node.value), (int, str, bool, type(None)), name)
        for name, node in nodes(ast.Assign):
            self.assertEqual(len(node.targets), 1)
            self.assertIsInstance(node.targets[0], (ast.Name, ast.Attribute, ast.Subscript), (name, node.lineno))
        for name, node in nodes(ast.While, ast.For):
            self.assertEqual(node.orelse, [], (name, node.lineno))
        for name, node in nodes(ast.BinOp, ast.AugAssign):
            self.assertNotIsInstance(node.op, (ast.Div, ast.Pow, ast.MatMult), (name, node.lineno))
        for name, node in nodes(ast.ListComp):
            self.assertTrue(len(node.generators) == 1 and len(node.generators[0].ifs) <= 1, (name, node.lineno))

    def test_top_of_a_module(self):
        for name, tree in trees():
            for place, node in enumerate(tree.body):
                if isinstance(node, ast.Expr):
                    self.assertTrue(place == 0 and isinstance(node.value.value, str), name)
                elif isinstance(node, ast.Assign):
                    self.assertTrue(is_plain(node.value), (name, node.lineno))
                else:
                    self.assertIsInstance(node, (ast.ImportFrom, ast.FunctionDef, ast.ClassDef), name)

    def test_imports(self):
        drawn = {}
        for name, node in nodes(ast.ImportFrom):
            self.assertTrue(node.level == 0 and node.module.startswith("saymessages."), name)
            drawn.setdefault(name, set()).add(node.module.split(".")[1] + ".py")
            source = ast.parse((PACKAGE / (node.module.split(".")[1] + ".py")).read_text())
            defined = [one.name for one in source.body if isinstance(one, (ast.FunctionDef, ast.ClassDef))]
            defined += [one.targets[0].id for one in source.body if isinstance(one, ast.Assign)]
            for alias in node.names:
                self.assertTrue(alias.name in defined and alias.asname is None, (name, alias.name))
        left = {path.name for path in FILES}
        while left:
            free = {name for name in left if not drawn.get(name, set()) & left}
            self.assertTrue(free, "files draw from one another: %s" % left)
            left -= free

    def test_names(self):
        for name, tree in trees():
            bound = {node.id for node in ast.walk(tree) if isinstance(node, ast.Name) and isinstance(node.ctx, ast.Store)}
            bound |= {node.arg for node in ast.walk(tree) if isinstance(node, ast.arg)}
            bound |= {node.name for node in ast.walk(tree) if isinstance(node, ast.ExceptHandler) and node.name}
            outer = {node.name for node in tree.body if isinstance(node, ast.ClassDef)}
            outer |= {alias.name for node in tree.body if isinstance(node, ast.ImportFrom) for alias in node.names}
            self.assertEqual(bound & (outer | set(dir(builtins))), set(), name)
            defs = {node.name for node in ast.walk(tree) if isinstance(node, (ast.FunctionDef, ast.ClassDef))}
            for one in bound | defs - SPECIAL_METHODS:
                self.assertRegex(one, r"\A[A-Za-z][A-Za-z0-9_]*\Z", name)
            read = {node.id for node in ast.walk(tree) if isinstance(node, ast.Name)}
            self.assertEqual(read - bound - outer - defs - OWN_NAMES, set(), name)

    def test_functions_and_classes(self):
        for name, node in nodes(ast.FunctionDef, ast.Lambda):
            told = node.args
            self.assertTrue(not told.vararg and not told.kwarg and not told.kwonlyargs and not told.posonlyargs, name)
        for name, node in nodes(ast.FunctionDef, ast.ClassDef):
            self.assertEqual(node.decorator_list, [], name)
        for name, node in nodes(ast.ClassDef):
            self.assertLessEqual(len(node.bases), 1)
            for one in node.body:
                self.assertIsInstance(one, ast.FunctionDef, node.name)
        for name, node in nodes(ast.FunctionDef):
            for one in ast.walk(node):
                if isinstance(one, ast.Expr):
                    self.assertIsInstance(one.value, ast.Call, (name, one.lineno))

    def test_methods_and_values(self):
        methods = {one.name for name, node in nodes(ast.ClassDef) for one in node.body
                   if isinstance(one, ast.FunctionDef)}
        values = {node.attr for name, node in nodes(ast.Attribute) if isinstance(node.ctx, ast.Store)}
        self.assertEqual(methods & values, set())
        self.assertEqual(values & NOT_AS_VALUES, set())
        for name, node in nodes(ast.Attribute):
            self.assertIn(node.attr, methods | values | METHODS, (name, node.lineno))
        taken = {attr for one in (str, int, list, dict, set, bytes) for attr in dir(one)}
        self.assertEqual((methods - SPECIAL_METHODS) & (taken - METHODS), set())
        self.assertEqual(values & (taken - METHODS), set())

    def test_walked_at_once(self):
        walkers = ("zip", "enumerate", "reversed", "range")
        for name, tree in trees():
            around = {child: node for node in ast.walk(tree) for child in ast.iter_child_nodes(node)}
            for node in ast.walk(tree):
                if isinstance(node, ast.Call) and isinstance(node.func, ast.Name) and node.func.id in walkers:
                    outer = around[node]
                    is_first = isinstance(outer, ast.Call) and outer.args[0] is node and outer.func.id in OWN_NAMES
                    self.assertTrue(is_first or isinstance(outer, (ast.For, ast.comprehension)), (name, node.lineno))

    def test_texts(self):
        for name, node in nodes(ast.Constant):
            if isinstance(node.value, str):
                self.assertNotIn("%", node.value, (name, node.lineno))
        for name, node in nodes(ast.Compare):
            for op, other in zip(node.ops, node.comparators):
                if isinstance(op, (ast.Is, ast.IsNot)):
                    self.assertIn(getattr(other, "value", 0), (None, True, False), (name, node.lineno))


if __name__ == "__main__":
    unittest.main()
