"""The package keeps to the part of Python that it is written in."""

import ast
import builtins
import re
import unittest
from pathlib import Path

PACKAGE = Path(__file__).resolve().parent.parent / "madeimage"

ALLOWED_BUILTINS = set("""len range enumerate zip min max sum abs sorted reversed int str bool list tuple dict set frozenset
isinstance ord repr any all divmod Exception ValueError TypeError KeyError IndexError LookupError ZeroDivisionError
ArithmeticError OverflowError RuntimeError NotImplementedError AttributeError StopIteration""".split())
STATEMENTS = (ast.Assign, ast.AugAssign, ast.If, ast.While, ast.For, ast.Return, ast.Break, ast.Continue, ast.Pass,
              ast.Raise, ast.Try, ast.Expr, ast.FunctionDef, ast.ClassDef, ast.ImportFrom)
EXPRESSIONS = (ast.Constant, ast.Name, ast.List, ast.Tuple, ast.Dict, ast.BinOp, ast.UnaryOp, ast.BoolOp, ast.Compare,
               ast.IfExp, ast.Call, ast.Attribute, ast.Subscript, ast.Slice, ast.ListComp, ast.Lambda)
METHODS = set("""append clear copy count endswith extend find get index insert isalnum isalpha isdigit islower isspace
isupper items join keys ljust lower lstrip partition pop remove replace reverse rfind rjust rpartition rsplit rstrip
setdefault split splitlines startswith strip update upper values zfill bit_length""".split())
FORBIDDEN_WORDS = set("""type typing typing_extensions enum Enum IntEnum StrEnum Flag IntFlag Generic Protocol ABC ABCMeta
namedtuple NamedTuple TypedDict TYPE_CHECKING abstractmethod""".split())
FORBIDDEN_NAMES = set("""register mro elements open input version_info with_traceback add_note attrgetter breakpoint
builtins compile copyright credits delattr dir eval exec exit gc getattr globals hasattr help id importlib license locals
methodcaller os quit setattr super type vars sys format format_map""".split())
PYTHONS_OWN = set()
for kind in (str, int, list, dict, set, bytes, tuple, frozenset):
    PYTHONS_OWN |= set(dir(kind))


def files():
    return sorted(PACKAGE.glob("*.py"))


def parsed():
    return [(path, ast.parse(path.read_text())) for path in files()]


def nodes(kind):
    for path, tree in parsed():
        for node in ast.walk(tree):
            if isinstance(node, kind):
                yield path.name, node


def bound_names():
    for name, node in nodes((ast.Name, ast.arg, ast.FunctionDef, ast.ClassDef)):
        if isinstance(node, ast.Name):
            if isinstance(node.ctx, ast.Store):
                yield name, node.lineno, node.id
        else:
            yield name, node.lineno, node.arg if isinstance(node, ast.arg) else node.name


class Form(unittest.TestCase):
    def test_files(self):
        others = [path.name for path in PACKAGE.iterdir() if path.suffix != ".py" and path.name != "__pycache__"]
        self.assertEqual(others, [])
        for path in files():
            self.assertTrue(re.fullmatch(r"[a-z][a-z0-9_]*|__init__", path.stem), path)
            self.assertFalse(hasattr(builtins, path.stem) and path.stem != "__init__", path)

    def test_sizes_and_signs(self):
        for path in files():
            text = path.read_text(encoding="ascii")
            rows = text.split("\n")
            self.assertLessEqual(len(rows), 400, path)
            for row in rows:
                self.assertLessEqual(len(row), 120, (path, row))
                self.assertTrue(all(" " <= sign <= "~" for sign in row), (path, row))
        for name, node in nodes(ast.FunctionDef):
            self.assertLessEqual(node.end_lineno - node.lineno + 1, 40, (name, node.name))

    def test_words_that_stand_nowhere(self):
        for path in files():
            words = re.findall(r"\w+", path.read_text())
            self.assertEqual(FORBIDDEN_WORDS & set(words), set(), path)
            for part in ("dataclass", "overload", "contextmanager"):
                self.assertNotIn(part, path.read_text(), path)

    def test_imports(self):
        drawn = {}
        for path, tree in parsed():
            for node in ast.walk(tree):
                self.assertNotIsInstance(node, ast.Import)
                if isinstance(node, ast.ImportFrom):
                    self.assertIn(node, tree.body)
                    self.assertEqual(node.level, 0)
                    self.assertTrue(node.module.startswith("madeimage."), (path, node.module))
                    target = node.module.split(".")[1]
                    drawn.setdefault(path.stem, set()).add(target)
                    own = [one.name for one in ast.parse((PACKAGE / (target + ".py")).read_text()).body
                           if isinstance(one, (ast.FunctionDef, ast.ClassDef))]
                    constants = [one.targets[0].id for one in
                                 ast.parse((PACKAGE / (target + ".py")).read_text()).body if isinstance(one, ast.Assign)]
                    for alias in node.names:
                        self.assertIsNone(alias.asname)
                        self.assertIn(alias.name, own + constants, path)
        for start in drawn:
            seen, waiting = set(), list(drawn[start])
            while waiting:
                one = waiting.pop()
                self.assertNotEqual(one, start)
                if one not in seen:
                    seen.add(one)
                    waiting += drawn.get(one, ())

    def test_the_top_of_each_file(self):
        for path, tree in parsed():
            self.assertIsNotNone(ast.get_docstring(tree), path)
            told = []
            for node in tree.body:
                self.assertIsInstance(node, (ast.Expr, ast.ImportFrom, ast.FunctionDef, ast.ClassDef, ast.Assign))
                if isinstance(node, ast.ImportFrom):
                    told += [alias.name for alias in node.names]
                elif isinstance(node, ast.Assign):
                    told.append(node.targets[0].id)
                    self.check_plain(path, node.value, told)
                elif not isinstance(node, ast.Expr):
                    told.append(node.name)
            self.assertEqual(len(told), len(set(told)), path)

    def check_plain(self, path, value, told):
        for node in ast.walk(value):
            if node is not value:
                self.assertNotIsInstance(node, (ast.List, ast.Dict), path)
            if isinstance(node, ast.Name):
                self.assertIn(node.id, told, path)
            else:
                self.assertIsInstance(node, (ast.Constant, ast.List, ast.Tuple, ast.Dict, ast.Load), path)

    def test_statements_and_expressions(self):
        for name, node in nodes((ast.stmt, ast.expr)):
            allowed = STATEMENTS if isinstance(node, ast.stmt) else EXPRESSIONS
            self.assertIsInstance(node, allowed, (name, node.lineno))
        for name, node in nodes((ast.While, ast.For)):
            self.assertEqual(node.orelse, [], (name, node.lineno))
        for name, node in nodes(ast.Try):
            self.assertEqual(node.finalbody, [], (name, node.lineno))
        for name, node in nodes(ast.Assign):
            self.assertEqual(len(node.targets), 1, (name, node.lineno))
            self.assertNotIsInstance(node.targets[0], (ast.Tuple, ast.List), (name, node.lineno))
        for name, node in nodes(ast.Expr):
            is_text = isinstance(node.value, ast.Constant) and isinstance(node.value.value, str)
            self.assertTrue(is_text or isinstance(node.value, ast.Call), (name, node.lineno))
        for name, node in nodes(ast.ListComp):
            self.assertEqual(len(node.generators), 1, (name, node.lineno))
            self.assertLessEqual(len(node.generators[0].ifs), 1, (name, node.lineno))
        for name, node in nodes(ast.Div):
            self.fail(name)

    def test_constants(self):
        for name, node in nodes(ast.Constant):
            self.assertIsInstance(node.value, (int, str, type(None)), (name, node.lineno))
            if isinstance(node.value, str):
                self.assertNotIn("%", node.value, (name, node.lineno))

    def test_functions_and_classes(self):
        for name, node in nodes(ast.FunctionDef):
            self.assertEqual(node.decorator_list, [], name)
            self.assertIsNone(node.returns, name)
            given = node.args
            self.assertEqual((given.vararg, given.kwarg, given.kwonlyargs, given.posonlyargs), (None, None, [], []), name)
            for default in given.defaults:
                self.assertIsInstance(default, ast.Constant, name)
            if node.name.startswith("__"):
                self.assertEqual(node.name, "__init__", name)
        for name, node in nodes(ast.ClassDef):
            self.assertLessEqual(len(node.bases), 1, name)
            for inside in node.body:
                self.assertIsInstance(inside, (ast.FunctionDef, ast.Expr), (name, inside.lineno))

    def test_names(self):
        for name, line, bound in bound_names():
            self.assertTrue(re.fullmatch(r"[A-Za-z][A-Za-z0-9_]*|__init__", bound), (name, line, bound))
            self.assertFalse(hasattr(builtins, bound) and bound != "__init__", (name, line, bound))
            self.assertNotIn(bound, FORBIDDEN_NAMES, (name, line))
        for path, tree in parsed():
            tops = {alias.name for node in tree.body if isinstance(node, ast.ImportFrom) for alias in node.names}
            tops |= {node.name for node in tree.body if isinstance(node, ast.ClassDef)}
            stored = {node.id for node in ast.walk(tree) if isinstance(node, ast.Name) and isinstance(node.ctx, ast.Store)}
            stored |= {node.arg for node in ast.walk(tree) if isinstance(node, ast.arg)}
            self.assertEqual(tops & stored, set(), path)

    def test_builtins_that_are_used(self):
        for name, node in nodes(ast.Name):
            if hasattr(builtins, node.id):
                self.assertIn(node.id, ALLOWED_BUILTINS, (name, node.lineno))

    def test_methods_and_values(self):
        methods, values = set(), set()
        for name, node in nodes(ast.ClassDef):
            methods |= {inside.name for inside in node.body if isinstance(inside, ast.FunctionDef)}
        for name, node in nodes(ast.Attribute):
            self.assertNotIn(node.attr, FORBIDDEN_NAMES, (name, node.lineno))
            if isinstance(node.ctx, ast.Store):
                values.add(node.attr)
        self.assertEqual(methods & values, set())
        self.assertEqual((methods - {"__init__"}) & PYTHONS_OWN, set())
        self.assertEqual(values & PYTHONS_OWN, set())
        called = {node.func.attr for name, node in nodes(ast.Call) if isinstance(node.func, ast.Attribute)}
        self.assertEqual(called - methods - METHODS - {"__init__"}, set())
        read = {node.attr for name, node in nodes(ast.Attribute)}
        self.assertEqual(read - called - values - {"__init__"}, set())

    def test_tables_of_a_files_top_are_only_read(self):
        for path, tree in parsed():
            tables = {node.targets[0].id for node in tree.body
                      if isinstance(node, ast.Assign) and not isinstance(node.value, ast.Constant)}
            right = set()
            for node in ast.walk(tree):
                if isinstance(node, ast.Subscript) and isinstance(node.ctx, ast.Load):
                    right.add(id(node.value))
                elif isinstance(node, ast.Compare):
                    right |= {id(one) for one in node.comparators}
                elif isinstance(node, ast.For):
                    right.add(id(node.iter))
                elif isinstance(node, ast.Attribute) and node.attr == "get":
                    right.add(id(node.value))
            for node in ast.walk(tree):
                if isinstance(node, ast.Name) and node.id in tables and isinstance(node.ctx, ast.Load):
                    self.assertIn(id(node), right, (path, node.lineno))

    def test_errors(self):
        own = {node.name for name, node in nodes(ast.ClassDef)}
        for name, node in nodes(ast.Raise):
            self.assertIsInstance(node.exc, ast.Call, (name, node.lineno))
            self.assertIn(node.exc.func.id, own, (name, node.lineno))
        for name, node in nodes(ast.ExceptHandler):
            self.assertIn(node.type.id, own, (name, node.lineno))

    def test_is_stands_beside_none_alone(self):
        for name, node in nodes(ast.Compare):
            for sign, right in zip(node.ops, node.comparators):
                if isinstance(sign, (ast.Is, ast.IsNot)):
                    self.assertIsInstance(right, ast.Constant, (name, node.lineno))

    def test_what_is_walked_is_walked_on_the_spot(self):
        right = set()
        for name, node in nodes((ast.For, ast.comprehension)):
            right.add((name, node.iter.lineno, node.iter.col_offset))
        for name, node in nodes(ast.Call):
            is_walk = isinstance(node.func, ast.Name) and node.func.id in ("zip", "enumerate", "reversed", "range")
            is_view = isinstance(node.func, ast.Attribute) and node.func.attr in ("items", "keys", "values")
            if is_walk or is_view:
                self.assertIn((name, node.lineno, node.col_offset), right)

    def test_the_interface(self):
        defs = [node.name for node in ast.parse((PACKAGE / "language.py").read_text()).body
                if isinstance(node, ast.FunctionDef)]
        self.assertIn("read", defs)
        self.assertIn("tokens", defs)
        for path, tree in parsed():
            if path.stem != "language":
                tops = [node.name for node in tree.body if isinstance(node, (ast.FunctionDef, ast.ClassDef))]
                self.assertNotIn("read", tops, path)
                self.assertNotIn("tokens", tops, path)
