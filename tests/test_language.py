"""The form of the package: the part of Python that it keeps to."""

import ast
import builtins
import os
import re
import unittest

import millwords

FOLDER = os.path.dirname(os.path.abspath(millwords.__file__))
NAMES = ("len range enumerate zip min max sum abs sorted reversed int str bool list tuple dict set frozenset isinstance "
         "ord repr any all divmod Exception ValueError TypeError KeyError IndexError LookupError ZeroDivisionError "
         "ArithmeticError OverflowError RuntimeError NotImplementedError AttributeError StopIteration").split()
METHODS = ("append clear copy count endswith extend find get index insert isalnum isalpha isdigit islower isspace isupper "
           "items join keys ljust lower lstrip partition pop remove replace reverse rfind rjust rpartition rsplit rstrip "
           "setdefault split splitlines startswith strip update upper values zfill bit_length").split()
UNUSED = ("register mro elements open input version_info with_traceback add_note attrgetter breakpoint builtins compile "
          "copyright credits delattr dir eval exec exit gc getattr globals hasattr help id importlib license locals "
          "methodcaller os quit setattr super type vars sys format format_map").split()
WORDS = ("type typing typing_extensions enum Enum IntEnum StrEnum Flag IntFlag Generic Protocol ABC ABCMeta namedtuple "
         "NamedTuple TypedDict TYPE_CHECKING abstractmethod").split()
NODES = (
    ast.Module, ast.FunctionDef, ast.ClassDef, ast.arguments, ast.arg, ast.ImportFrom, ast.alias, ast.Assign,
    ast.AugAssign, ast.If, ast.While, ast.For, ast.Return, ast.Break, ast.Continue, ast.Pass, ast.Raise, ast.Try,
    ast.ExceptHandler, ast.Expr, ast.Constant, ast.List, ast.Tuple, ast.Dict, ast.Name, ast.Attribute, ast.Subscript,
    ast.Slice, ast.Call, ast.BinOp, ast.UnaryOp, ast.BoolOp, ast.Compare, ast.IfExp, ast.ListComp, ast.comprehension,
    ast.Load, ast.Store, ast.Add, ast.Sub, ast.Mult, ast.FloorDiv, ast.Mod, ast.Pow, ast.USub, ast.Not, ast.And, ast.Or,
    ast.Eq, ast.NotEq, ast.Lt, ast.LtE, ast.Gt, ast.GtE, ast.In, ast.NotIn, ast.Is, ast.IsNot, ast.keyword,
)


def sources():
    for name in sorted(os.listdir(FOLDER)):
        if name != "__pycache__":
            with open(os.path.join(FOLDER, name), encoding="utf-8", newline="") as file:
                yield name, file.read()


def trees():
    for name, text in sources():
        yield name, ast.parse(text)


class Language(unittest.TestCase):
    def test_files(self):
        for name, text in sources():
            self.assertRegex(name, r"^[a-z_][a-z0-9_]*\.py$")
            self.assertEqual(re.findall(r"[^ -~\n]", text), [], name)
            rows = text.splitlines()
            self.assertLessEqual(len(rows), 400, name)
            self.assertLessEqual(max(len(row) for row in rows), 120, name)
            words = re.findall(r"\w+", text)
            self.assertEqual([word for word in words if word in WORDS], [], name)
            self.assertIsNone(re.search("dataclass|overload|contextmanager", text), name)

    def test_top(self):
        for name, tree in trees():
            self.assertIsInstance(tree.body[0], ast.Expr, name)
            bound = []
            for node in tree.body[1:]:
                self.assertIsInstance(node, (ast.ImportFrom, ast.FunctionDef, ast.ClassDef, ast.Assign), name)
                if isinstance(node, ast.ImportFrom):
                    self.assertTrue(node.level == 0 and node.module.startswith("millwords."), name)
                    bound.extend(alias.name for alias in node.names)
                elif isinstance(node, ast.Assign):
                    self.plain_value(node.value, name)
                    bound.append(node.targets[0].id)
                else:
                    bound.append(node.name)
            self.assertEqual(len(bound), len(set(bound)), name)

    def plain_value(self, value, name):
        ast.literal_eval(value)
        for node in ast.iter_child_nodes(value):
            self.assertNotIsInstance(node, (ast.List, ast.Dict), name)

    def test_nodes(self):
        for name, tree in trees():
            for node in ast.walk(tree):
                where = (name, getattr(node, "lineno", 0))
                self.assertIsInstance(node, NODES, where)
                self.check(node, where)

    def check(self, node, where):
        if isinstance(node, ast.Constant):
            self.assertIn(type(node.value), (int, str, bool, type(None)), where)
            self.assertFalse(isinstance(node.value, str) and "%" in node.value, where)
        elif isinstance(node, ast.Assign):
            self.assertEqual(len(node.targets), 1, where)
        elif isinstance(node, (ast.For, ast.While)):
            self.assertEqual(node.orelse, [], where)
        elif isinstance(node, ast.Try):
            self.assertEqual(node.finalbody, [], where)
        elif isinstance(node, ast.ListComp):
            self.assertEqual(len(node.generators), 1, where)
        elif isinstance(node, ast.Compare):
            for operator, right in zip(node.ops, node.comparators):
                if isinstance(operator, (ast.Is, ast.IsNot)):
                    self.assertIsInstance(right, ast.Constant, where)
        elif isinstance(node, (ast.FunctionDef, ast.ClassDef)):
            self.check_definition(node, where)
        elif isinstance(node, ast.Name):
            self.check_name(node, where)
        elif isinstance(node, ast.Attribute):
            self.assertNotIn(node.attr, UNUSED, where)

    def check_definition(self, node, where):
        self.assertEqual(node.decorator_list, [], where)
        if isinstance(node, ast.FunctionDef):
            self.assertLessEqual(node.end_lineno - node.lineno + 1, 40, where)
            self.assertTrue(node.name == "__init__" or not node.name.startswith("_"), where)
            self.assertIsNone(node.args.vararg or node.args.kwarg or node.returns, where)
            self.assertEqual(node.args.kwonlyargs + node.args.posonlyargs, [], where)
            for argument in node.args.args:
                self.assertFalse(hasattr(builtins, argument.arg) or argument.arg.startswith("_"), where)
        else:
            self.assertLessEqual(len(node.bases), 1, where)
            for part in node.body:
                self.assertIsInstance(part, (ast.FunctionDef, ast.Pass), where)

    def check_name(self, node, where):
        self.assertFalse(node.id.startswith("_"), where)
        self.assertNotIn(node.id, UNUSED, where)
        if hasattr(builtins, node.id):
            self.assertIn(node.id, NAMES, where)
            self.assertIsInstance(node.ctx, ast.Load, where)

    def test_methods(self):
        own = [node.name for name, tree in trees() for node in ast.walk(tree) if isinstance(node, ast.FunctionDef)]
        for name, tree in trees():
            for node in ast.walk(tree):
                if isinstance(node, ast.Call) and isinstance(node.func, ast.Attribute):
                    self.assertIn(node.func.attr, METHODS + own, (name, node.lineno))

    def test_values_and_methods_are_apart(self):
        methods = set()
        values = set()
        for name, tree in trees():
            for node in ast.walk(tree):
                if isinstance(node, ast.ClassDef):
                    methods.update(part.name for part in node.body if isinstance(part, ast.FunctionDef))
                elif isinstance(node, ast.Attribute) and isinstance(node.ctx, ast.Store):
                    values.add(node.attr)
        self.assertEqual(methods & values, set())

    def test_no_files_draw_from_one_another(self):
        draws = {}
        for name, tree in trees():
            draws["millwords." + name[:-3]] = [node.module for node in tree.body if isinstance(node, ast.ImportFrom)]
        done = []
        while len(done) < len(draws):
            ready = [name for name in draws if name not in done and all(drawn in done for drawn in draws[name])]
            self.assertNotEqual(ready, [], draws)
            done.extend(ready)
