"""The package keeps to the small part of Python: what of its rules can be seen from a file."""

import ast
import builtins
import os
import re
import unittest

import pastwatch

FOLDER = os.path.dirname(os.path.abspath(pastwatch.__file__))
FILES = sorted(name for name in os.listdir(FOLDER) if name != "__pycache__")
ALLOWED = set(
    "len range enumerate zip min max sum abs sorted reversed int str bool list tuple dict set frozenset isinstance ord "
    "repr any all divmod Exception ValueError TypeError KeyError IndexError LookupError ZeroDivisionError "
    "ArithmeticError OverflowError RuntimeError NotImplementedError AttributeError StopIteration".split())
METHODS = set(
    "append clear copy count endswith extend find get index insert isalnum isalpha isdigit islower isspace isupper "
    "items join keys ljust lower lstrip partition pop remove replace reverse rfind rjust rpartition rsplit rstrip "
    "setdefault split splitlines startswith strip update upper values zfill bit_length".split())
NOWHERE = (r"\b(type|typing|typing_extensions|enum|Enum|IntEnum|StrEnum|Flag|IntFlag|Generic|Protocol|ABC|ABCMeta|"
           r"namedtuple|NamedTuple|TypedDict|TYPE_CHECKING|abstractmethod)\b|dataclass|overload|contextmanager")
NO_NAMES = set(
    "register mro elements open input version_info with_traceback add_note attrgetter breakpoint builtins compile "
    "copyright credits delattr dir eval exec exit gc getattr globals hasattr help id importlib license locals "
    "methodcaller os quit setattr super type vars sys chr format format_map".split())
NODES = (
    ast.Module, ast.ImportFrom, ast.alias, ast.FunctionDef, ast.arguments, ast.arg, ast.ClassDef, ast.Assign,
    ast.AugAssign, ast.If, ast.While, ast.For, ast.Return, ast.Break, ast.Continue, ast.Pass, ast.Raise, ast.Expr,
    ast.Constant, ast.List, ast.Tuple, ast.Dict, ast.BinOp, ast.UnaryOp, ast.BoolOp, ast.Compare, ast.IfExp, ast.Call,
    ast.Attribute, ast.Subscript, ast.Slice, ast.Name, ast.ListComp, ast.comprehension, ast.expr_context, ast.operator,
    ast.unaryop, ast.boolop, ast.cmpop)


def text_of(name):
    with open(os.path.join(FOLDER, name), encoding="utf-8", newline="") as file:
        return file.read()


def trees():
    return [(name, ast.parse(text_of(name))) for name in FILES]


def nodes(kinds):
    return [(name, node) for name, tree in trees() for node in ast.walk(tree) if isinstance(node, kinds)]


def bound_names(node):
    if isinstance(node, ast.Name):
        return [node.id] if isinstance(node.ctx, ast.Store) else []
    if isinstance(node, (ast.FunctionDef, ast.ClassDef)):
        return [node.name]
    return [node.arg] if isinstance(node, ast.arg) else []


class Files(unittest.TestCase):
    def test_only_plain_files(self):
        for name in FILES:
            self.assertRegex(name, r"^[a-z_][a-z0-9_]*\.py$")
            self.assertFalse(name[:-3] in dir(builtins), name)
        self.assertIn("__init__.py", FILES)
        self.assertIn("rules.py", FILES)

    def test_sizes_and_signs(self):
        for name in FILES:
            lines = text_of(name).split("\n")
            self.assertLess(len(lines), 400, name)
            for line in lines:
                self.assertRegex(line, r"^[ -~]{0,120}$", name)

    def test_words_that_stand_nowhere(self):
        for name in FILES:
            self.assertIsNone(re.search(NOWHERE, text_of(name)), name)

    def test_functions_are_short(self):
        for name, node in nodes(ast.FunctionDef):
            self.assertLessEqual(node.end_lineno - node.lineno, 39, (name, node.name))


class Code(unittest.TestCase):
    def test_only_these_forms(self):
        for name, tree in trees():
            for node in ast.walk(tree):
                self.assertIsInstance(node, NODES, name)
        for name, node in nodes(ast.Constant):
            self.assertIn(type(node.value), (int, str, bool, type(None)), name)
        for name, node in nodes(ast.Assign):
            self.assertEqual(len(node.targets), 1, name)
            self.assertNotIsInstance(node.targets[0], (ast.Tuple, ast.List), name)
        for name, node in nodes((ast.Div, ast.MatMult)):
            self.fail(name)
        for name, node in nodes((ast.For, ast.While)):
            self.assertEqual(node.orelse, [], name)

    def test_imports(self):
        drawn = {}
        for name, tree in trees():
            rows = [node for node in ast.walk(tree) if isinstance(node, ast.ImportFrom)]
            for node in rows:
                self.assertIn(node, tree.body)
                self.assertEqual(node.level, 0)
                self.assertRegex(node.module, r"^pastwatch\.[a-z]+$")
                source = ast.parse(text_of(node.module.split(".")[1] + ".py"))
                for alias in node.names:
                    self.assertIn(alias.name, [getattr(row, "name", "") for row in source.body], name)
                    self.assertIsNone(alias.asname)
            drawn[name] = {node.module.split(".")[1] + ".py" for node in rows}
        self.assertEqual(drawn["__init__.py"], set())
        while drawn:
            ready = [name for name in drawn if not drawn[name] & set(drawn)]
            self.assertTrue(ready, "files draw from one another")
            for name in ready:
                drawn.pop(name)

    def test_the_top_of_a_file(self):
        for name, tree in trees():
            for place, node in enumerate(tree.body):
                if isinstance(node, ast.Assign):
                    ast.literal_eval(node.value)
                elif isinstance(node, ast.Expr):
                    self.assertEqual(place, 0, name)
                else:
                    self.assertIsInstance(node, (ast.ImportFrom, ast.FunctionDef, ast.ClassDef), name)
            bound = [bound for node in tree.body for part in ([node] if not isinstance(node, ast.Assign) else
                                                              node.targets) for bound in bound_names(part)]
            self.assertEqual(len(bound), len(set(bound)), name)

    def test_names(self):
        for name, tree in trees():
            top = [node.name for node in tree.body if isinstance(node, ast.ClassDef)]
            top += [alias.name for node in tree.body if isinstance(node, ast.ImportFrom) for alias in node.names]
            functions = [node for node in ast.walk(tree) if isinstance(node, ast.FunctionDef)]
            for function in functions:
                for node in ast.walk(function):
                    if not isinstance(node, ast.FunctionDef):
                        for bound in bound_names(node):
                            self.assertNotIn(bound, top + dir(builtins) + sorted(NO_NAMES), name)
            for node in ast.walk(tree):
                for bound in bound_names(node):
                    self.assertTrue(bound == "__init__" or re.match("^[A-Za-z][A-Za-z0-9_]*$", bound), bound)
                    self.assertNotIn(bound, NO_NAMES)
                if isinstance(node, ast.Name) and node.id in dir(builtins):
                    self.assertIn(node.id, ALLOWED, name)

    def test_methods_and_values(self):
        methods = {node.name for name, owner in nodes(ast.ClassDef) for node in owner.body
                   if isinstance(node, ast.FunctionDef)}
        called = {node.func.attr for name, node in nodes(ast.Call) if isinstance(node.func, ast.Attribute)}
        values = {node.attr for name, node in nodes(ast.Attribute)} - called
        self.assertEqual(called - methods - METHODS, set())
        self.assertEqual(values & methods, set())
        taken = {word for sort in (str, int, list, tuple, dict, set, bytes) for word in dir(sort)}
        self.assertEqual((values | methods - {"__init__"}) & taken, set())
        self.assertEqual((values | methods) & NO_NAMES, set())

    def test_parameters_are_plain(self):
        for name, node in nodes(ast.FunctionDef):
            given = node.args
            self.assertEqual((given.vararg, given.kwarg, given.kwonlyargs, given.defaults), (None, None, [], []))
            self.assertEqual(node.decorator_list, [])

    def test_is_stands_beside_none_alone(self):
        for name, node in nodes(ast.Compare):
            for sign, right in zip(node.ops, node.comparators):
                if isinstance(sign, (ast.Is, ast.IsNot)):
                    self.assertIsNone(right.value, name)


if __name__ == "__main__":
    unittest.main()
