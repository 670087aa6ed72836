"""The form of the package's files: the rules of the language that can be seen without running it."""

import ast
import builtins
import re
import unittest
from pathlib import Path

PACKAGE = Path(__file__).resolve().parent.parent / "selfsight"

BUILTINS = set("""len range enumerate zip min max sum abs sorted reversed int str bool list tuple dict set frozenset
    isinstance ord repr any all divmod Exception ValueError TypeError KeyError IndexError LookupError
    ZeroDivisionError ArithmeticError OverflowError RuntimeError NotImplementedError AttributeError
    StopIteration""".split())
METHODS = set("""append clear copy count endswith extend find get index insert isalnum isalpha isdigit islower isspace
    isupper items join keys ljust lower lstrip partition pop remove replace reverse rfind rjust rpartition rsplit
    rstrip setdefault split splitlines startswith strip update upper values zfill bit_length""".split())
DUNDERS = {"__init__", "__eq__", "__repr__", "__str__", "__len__"}
NOWHERE = re.compile(r"\b(type|typing|typing_extensions|enum|Enum|IntEnum|StrEnum|Flag|IntFlag|Generic|Protocol|ABC"
                     r"|ABCMeta|namedtuple|NamedTuple|TypedDict|TYPE_CHECKING|abstractmethod)\b"
                     r"|dataclass|overload|contextmanager")
NOT_USED = {"register", "mro", "elements", "open", "input", "version_info", "with_traceback", "add_note"}
NODES = set("""Module Expr Constant ImportFrom alias FunctionDef arguments arg ClassDef Assign AugAssign If While For
    Return Break Continue Pass Raise Try ExceptHandler Call Name Load Store Attribute Subscript Slice List Tuple Dict
    Set ListComp comprehension Lambda IfExp BoolOp And Or UnaryOp Not USub UAdd Invert BinOp Add Sub Mult FloorDiv Mod
    Pow BitAnd BitOr BitXor LShift RShift Compare Eq NotEq Lt LtE Gt GtE Is IsNot In NotIn JoinedStr FormattedValue
    keyword""".split())


def sources():
    return sorted(PACKAGE.glob("*.py"))


def trees():
    return [(path.name, ast.parse(path.read_text("utf-8"))) for path in sources()]


def nodes_of(kinds):
    return [(f"{name}:{node.lineno}", node) for name, tree in trees() for node in ast.walk(tree)
            if isinstance(node, kinds)]


def defined_in(tree):
    defs = [node.name for node in tree.body if isinstance(node, (ast.FunctionDef, ast.ClassDef))]
    return defs + [node.targets[0].id for node in tree.body if isinstance(node, ast.Assign)]


class FormTest(unittest.TestCase):
    def test_files(self):
        self.assertTrue((PACKAGE / "__init__.py").is_file())
        for path in PACKAGE.iterdir():
            if path.name != "__pycache__":
                self.assertRegex(path.name, r"\A([a-z][a-z0-9_]*|__init__|__main__)\.py\Z")

    def test_signs_and_sizes(self):
        for path in sources():
            text = path.read_bytes().decode("ascii")
            self.assertRegex(text, r"\A[ -~\n]*\Z", path.name)
            self.assertIsNone(NOWHERE.search(text), path.name)
            lines = text.split("\n")
            self.assertLessEqual(len(lines), 401, path.name)
            self.assertLessEqual(max(len(line) for line in lines), 120, path.name)

    def test_functions_are_short_and_plain(self):
        for where, node in nodes_of(ast.FunctionDef):
            self.assertLessEqual(node.end_lineno - node.lineno + 1, 40, where)
            self.assertEqual(node.decorator_list, [], where)
            plain = node.args
            self.assertFalse(plain.vararg or plain.kwarg or plain.kwonlyargs or plain.posonlyargs, where)

    def test_only_allowed_nodes(self):
        for where, tree in trees():
            for node in ast.walk(tree):
                self.assertIn(type(node).__name__, NODES, where)

    def test_only_modules_hold_a_bare_text(self):
        for name, tree in trees():
            for node in ast.walk(tree):
                if isinstance(node, ast.Expr) and node is not tree.body[0]:
                    self.assertIsInstance(node.value, ast.Call, f"{name}:{node.lineno}")

    def test_assignments_have_one_target(self):
        for where, node in nodes_of(ast.Assign):
            self.assertEqual(len(node.targets), 1, where)
            self.assertIsInstance(node.targets[0], (ast.Name, ast.Attribute, ast.Subscript), where)

    def test_loops_and_tries_have_no_more_than_is_allowed(self):
        for where, node in nodes_of((ast.For, ast.While)):
            self.assertEqual(node.orelse, [], where)
        for where, node in nodes_of(ast.Try):
            self.assertEqual(node.finalbody, [], where)

    def test_values(self):
        for where, node in nodes_of(ast.Constant):
            self.assertIn(type(node.value).__name__, ("int", "str", "bool", "NoneType"), where)
            if isinstance(node.value, str):
                self.assertNotIn("%", node.value, where)

    def test_values_of_a_files_top_are_plain(self):
        for name, tree in trees():
            for place, node in enumerate(tree.body):
                if isinstance(node, ast.Assign):
                    above = {each.name for each in tree.body[:place] if isinstance(each, ast.FunctionDef)}
                    self.assert_plain(node.value, above, f"{name}:{node.lineno}")

    def assert_plain(self, node, above, where):
        if isinstance(node, ast.Name):
            self.assertIn(node.id, above, where)
        else:
            self.assertIsInstance(node, (ast.Constant, ast.Tuple, ast.List, ast.Dict), where)
        for inner in ast.iter_child_nodes(node):
            if isinstance(inner, ast.expr):
                self.assertNotIsInstance(inner, (ast.List, ast.Dict), where)
                self.assert_plain(inner, above, where)

    def test_is_stands_beside_none_and_truths(self):
        for where, node in nodes_of(ast.Compare):
            if any(isinstance(op, (ast.Is, ast.IsNot)) for op in node.ops):
                parts = [node.left] + node.comparators
                beside = [part for part in parts if isinstance(part, ast.Constant)]
                self.assertTrue(any(part.value in (None, True, False) for part in beside), where)

    def test_imports(self):
        defined = {f"selfsight.{name[:-3]}": defined_in(tree) for name, tree in trees()}
        for where, node in nodes_of(ast.ImportFrom):
            self.assertEqual(node.level, 0, where)
            self.assertIn(node.module, defined, where)
            for each in node.names:
                self.assertIn(each.name, defined[node.module], where)

    def test_no_two_files_draw_from_one_another(self):
        drawn = {name[:-3]: {node.module.partition(".")[2] for node in tree.body if isinstance(node, ast.ImportFrom)}
                 for name, tree in trees()}
        while drawn:
            free = [name for name in drawn if not drawn[name] & set(drawn)]
            self.assertNotEqual(free, [], drawn)
            for name in free:
                drawn.pop(name)

    def test_locals_are_not_called_like_imports_and_classes(self):
        for name, tree in trees():
            taken = {node.name for node in tree.body if isinstance(node, ast.ClassDef)}
            taken |= {each.name for node in tree.body if isinstance(node, ast.ImportFrom) for each in node.names}
            for node in ast.walk(tree):
                if isinstance(node, ast.arg) or (isinstance(node, ast.Name) and isinstance(node.ctx, ast.Store)):
                    self.assertNotIn(node.arg if isinstance(node, ast.arg) else node.id, taken, f"{name}:{node.lineno}")

    def test_no_name_is_a_method_and_a_value(self):
        methods = {each.name for where, node in nodes_of(ast.ClassDef) for each in node.body
                   if isinstance(each, ast.FunctionDef)}
        own_values = {node.attr for where, node in nodes_of(ast.Attribute) if isinstance(node.ctx, ast.Store)}
        self.assertEqual(methods & own_values, set())
        pythons = {name for kind in (str, int, list, dict, set, bytes) for name in dir(kind)}
        self.assertEqual(own_values & pythons, set())

    def test_ranges_and_their_like_are_walked_at_once(self):
        walkers = {"list", "tuple", "dict", "sorted", "sum", "any", "all", "enumerate", "zip", "min", "max"}
        lazy = {"range", "zip", "enumerate", "reversed"}
        for name, tree in trees():
            walked = set()
            for node in ast.walk(tree):
                if isinstance(node, (ast.For, ast.comprehension)):
                    walked.add(node.iter)
                if isinstance(node, ast.Call) and isinstance(node.func, ast.Name) and node.func.id in walkers:
                    walked |= set(node.args[:1])
            for node in ast.walk(tree):
                if isinstance(node, ast.Call) and isinstance(node.func, ast.Name) and node.func.id in lazy:
                    self.assertIn(node, walked, f"{name}:{node.lineno}")

    def test_pythons_own_names(self):
        for where, node in nodes_of(ast.Name):
            self.assertFalse(node.id.startswith("_"), where)
            self.assertNotIn(node.id, NOT_USED, where)
            if hasattr(builtins, node.id):
                self.assertIn(node.id, BUILTINS, where)
                self.assertIsInstance(node.ctx, ast.Load, where)
        for where, node in nodes_of(ast.arg):
            self.assertFalse(hasattr(builtins, node.arg) or node.arg.startswith("_"), where)

    def test_methods(self):
        own = {node.name for where, node in nodes_of(ast.FunctionDef)}
        for where, node in nodes_of(ast.Attribute):
            self.assertNotIn(node.attr, NOT_USED, where)
            self.assertTrue(not node.attr.startswith("_") or node.attr in DUNDERS, where)
        for where, node in nodes_of(ast.Call):
            if isinstance(node.func, ast.Attribute):
                self.assertIn(node.func.attr, METHODS | own, where)


if __name__ == "__main__":
    unittest.main()
