"""What can be seen at once of the rules (L1 to L28) that the package's files keep to."""

import ast
import builtins
import os
import re
import unittest

ROOT = os.path.dirname(os.path.dirname(os.path.abspath(__file__)))
PACKAGE = os.path.join(ROOT, "softedges")

NODES = set("""
    Module Expr Assign AugAssign FunctionDef ClassDef arguments arg Lambda Return If While For Break Continue Pass
    Raise Try ExceptHandler ImportFrom alias Name Load Store Constant List Tuple Dict Attribute Subscript Slice Call
    keyword BinOp UnaryOp BoolOp Compare IfExp ListComp comprehension JoinedStr FormattedValue
    Add Sub Mult FloorDiv Mod Pow BitAnd BitOr BitXor LShift RShift Invert USub UAdd Not And Or
    Eq NotEq Lt LtE Gt GtE Is IsNot In NotIn
""".split())

OWN_NAMES = set("""
    len range enumerate zip min max sum abs sorted reversed int str bool list tuple dict set frozenset isinstance ord
    repr any all divmod Exception ValueError TypeError KeyError IndexError LookupError ZeroDivisionError
    ArithmeticError OverflowError RuntimeError NotImplementedError StopIteration
""".split())

METHODS = set("""
    append clear copy count endswith extend find get index insert isalnum isalpha isdigit islower isspace isupper
    items join keys ljust lower lstrip partition pop remove replace reverse rfind rjust rpartition rsplit rstrip
    setdefault split splitlines startswith strip update upper values zfill bit_length
""".split())

FOREIGN = set(dir(str) + dir(int) + dir(list) + dir(dict) + dir(set) + dir(bytes) + dir(tuple)) - METHODS

WORDS = re.compile(
    r"\b(type|typing|typing_extensions|enum|Enum|IntEnum|StrEnum|Flag|IntFlag|Generic|Protocol|ABC|ABCMeta|namedtuple"
    r"|NamedTuple|TypedDict|TYPE_CHECKING|abstractmethod)\b|dataclass|overload|contextmanager")

UNUSED = set("register mro elements open input version_info with_traceback add_note format format_map".split())

DUNDERS = ("__init__", "__eq__", "__repr__", "__str__", "__len__")


def texts():
    for name in sorted(os.listdir(PACKAGE)):
        if name != "__pycache__":
            with open(os.path.join(PACKAGE, name), "rb") as file:
                yield name, file.read().decode("utf-8")


def trees():
    for name, text in texts():
        yield name, ast.parse(text)


def bound_names(tree):
    """Every name that the file binds, with its row."""
    for node in ast.walk(tree):
        if isinstance(node, (ast.FunctionDef, ast.ClassDef)):
            yield node.name, node.lineno
        elif isinstance(node, ast.arg):
            yield node.arg, node.lineno
        elif isinstance(node, ast.alias):
            yield node.asname or node.name, node.lineno
        elif isinstance(node, ast.Name) and isinstance(node.ctx, ast.Store):
            yield node.id, node.lineno
        elif isinstance(node, ast.Attribute) and isinstance(node.ctx, ast.Store):
            yield node.attr, node.lineno


class LanguageTest(unittest.TestCase):
    def test_files(self):
        names = [name for name, text in texts()]
        self.assertIn("__init__.py", names)
        self.assertIn("pages.py", names)
        for name in names:
            self.assertRegex(name, r"\A([a-z][a-z0-9_]*|__init__|__main__)\.py\Z")

    def test_signs_and_sizes(self):
        for name, text in texts():
            self.assertRegex(text, r"\A[ -~\n]*\Z", name)
            rows = text.split("\n")
            self.assertLessEqual(len(rows), 400, name)
            self.assertLessEqual(max(map(len, rows)), 120, name)
            self.assertIsNone(WORDS.search(text), name)

    def test_functions_are_small_and_plain(self):
        for name, tree in trees():
            for node in ast.walk(tree):
                if isinstance(node, ast.FunctionDef):
                    where = (name, node.name)
                    self.assertLessEqual(node.end_lineno - node.lineno + 1, 40, where)
                    self.assertEqual(node.decorator_list, [], where)
                    self.assertIsNone(node.args.vararg or node.args.kwarg, where)
                    self.assertEqual(node.args.kwonlyargs + node.args.posonlyargs, [], where)

    def test_forms(self):
        for name, tree in trees():
            for node in ast.walk(tree):
                where = (name, getattr(node, "lineno", None), ast.dump(node)[:80])
                self.assertIn(node.__class__.__name__, NODES, where)
                if isinstance(node, ast.Assign):
                    self.assertEqual(len(node.targets), 1, where)
                if isinstance(node, ast.Constant):
                    self.assertIn(node.value.__class__.__name__, ("int", "str", "bool", "NoneType"), where)
                if isinstance(node, (ast.For, ast.While)):
                    self.assertEqual(node.orelse, [], where)
                if isinstance(node, ast.ListComp):
                    self.assertEqual(len(node.generators), 1, where)
                    self.assertLessEqual(len(node.generators[0].ifs), 1, where)
                if isinstance(node, ast.BinOp) and isinstance(node.op, ast.Pow):
                    self.assertIsInstance(node.right, ast.Constant, where)

    def test_imports_are_of_the_package_s_own_files(self):
        files = {name[:-3] for name, text in texts()}
        for name, tree in trees():
            for node in ast.walk(tree):
                if isinstance(node, ast.ImportFrom):
                    where = (name, node.lineno)
                    self.assertEqual(node.level, 0, where)
                    self.assertRegex(node.module, r"\Asoftedges\.[a-z_0-9]+\Z", where)
                    self.assertIn(node.module.split(".")[1], files, where)
                    self.assertIn(node, tree.body, where)

    def test_no_two_files_draw_from_one_another(self):
        drawn = {
            name[:-3]: {node.module.split(".")[1] for node in tree.body if isinstance(node, ast.ImportFrom)}
            for name, tree in trees()}
        while drawn:
            free = [name for name in drawn if not drawn[name] & set(drawn)]
            self.assertTrue(free, drawn)
            for name in free:
                drawn.pop(name)

    def test_drawn_names_are_defined_there_and_used(self):
        defined = {}
        for name, tree in trees():
            defined[name[:-3]] = {node.name for node in tree.body if isinstance(node, (ast.FunctionDef, ast.ClassDef))}
            defined[name[:-3]] |= {node.targets[0].id for node in tree.body if isinstance(node, ast.Assign)}
        for name, tree in trees():
            used = {node.id for node in ast.walk(tree) if isinstance(node, ast.Name)}
            for node in tree.body:
                if isinstance(node, ast.ImportFrom):
                    for bound in node.names:
                        self.assertIn(bound.name, defined[node.module.split(".")[1]], name)
                        self.assertIn(bound.name, used, name)

    def test_is_stands_beside_none_true_and_false_alone(self):
        for name, tree in trees():
            for node in ast.walk(tree):
                if isinstance(node, ast.Compare) and isinstance(node.ops[0], (ast.Is, ast.IsNot)):
                    self.assertIsInstance(node.comparators[0], ast.Constant, (name, node.lineno))

    def test_names(self):
        for name, tree in trees():
            own = {bound for bound, row in bound_names(tree)}
            for bound, row in bound_names(tree):
                if bound not in DUNDERS:
                    self.assertRegex(bound, r"\A[A-Za-z][A-Za-z0-9_]*\Z", (name, row))
                    self.assertNotIn(bound, dir(builtins), (name, row))
                    self.assertNotIn(bound, UNUSED, (name, row))
            for node in ast.walk(tree):
                if isinstance(node, ast.Name):
                    self.assertIn(node.id, own | OWN_NAMES, (name, node.lineno))
                if isinstance(node, ast.Attribute):
                    self.assertNotIn(node.attr, FOREIGN | UNUSED, (name, node.lineno))

    def test_each_name_once_at_a_file_s_top(self):
        for name, tree in trees():
            top = [node.name for node in tree.body if isinstance(node, (ast.FunctionDef, ast.ClassDef))]
            top += [node.targets[0].id for node in tree.body if isinstance(node, ast.Assign)]
            top += [bound.name for node in tree.body if isinstance(node, ast.ImportFrom) for bound in node.names]
            self.assertEqual(len(top), len(set(top)), name)
            for node in ast.walk(tree):
                if isinstance(node, ast.arg):
                    self.assertNotIn(node.arg, top, (name, node.lineno))
                if isinstance(node, ast.Name) and isinstance(node.ctx, ast.Store) and node.col_offset:
                    self.assertNotIn(node.id, top, (name, node.lineno))

    def test_nothing_is_done_when_a_file_is_drawn_from(self):
        for name, tree in trees():
            self.assertIsInstance(tree.body[0].value, ast.Constant, name)
            for node in tree.body[1:]:
                self.assertIsInstance(node, (ast.ImportFrom, ast.FunctionDef, ast.ClassDef, ast.Assign), name)


if __name__ == "__main__":
    unittest.main()
