"""The package keeps to the part of Python that LANGUAGE.md tells, as far as its form shows it."""

import ast
import builtins
import pathlib
import re
import unittest

PACKAGE = pathlib.Path(__file__).resolve().parent.parent / "margintext"
FILES = sorted(path for path in PACKAGE.rglob("*.py"))

STATEMENTS = (ast.Assign, ast.AugAssign, ast.If, ast.While, ast.For, ast.Return, ast.Break, ast.Continue, ast.Pass,
              ast.Raise, ast.Try, ast.Expr, ast.FunctionDef, ast.ClassDef, ast.ImportFrom)
EXPRESSIONS = (ast.Constant, ast.List, ast.Tuple, ast.Dict, ast.BinOp, ast.UnaryOp, ast.BoolOp, ast.Compare, ast.IfExp,
               ast.Call, ast.Attribute, ast.Subscript, ast.Slice, ast.Name, ast.ListComp, ast.JoinedStr,
               ast.FormattedValue, ast.Lambda)
BUILTINS = set("""len range enumerate zip min max sum abs sorted reversed int str bool list tuple dict set frozenset
isinstance ord repr any all divmod Exception ValueError TypeError KeyError IndexError LookupError ZeroDivisionError
ArithmeticError OverflowError RuntimeError NotImplementedError AttributeError StopIteration""".split())
METHODS = set("""append clear copy count endswith extend find get index insert isalnum isalpha isdigit islower isspace
isupper items join keys ljust lower lstrip partition pop remove replace reverse rfind rjust rpartition rsplit rstrip
setdefault split splitlines startswith strip update upper values zfill bit_length""".split())
OWN_METHODS = ("__init__", "__eq__", "__repr__", "__str__", "__len__")
NEVER = set("""register mro elements open input version_info with_traceback add_note attrgetter breakpoint builtins
compile copyright credits delattr dir eval exec exit gc getattr globals hasattr help id importlib license locals
methodcaller os quit setattr super vars sys format format_map""".split())
WORDS = set("""type typing typing_extensions enum Enum IntEnum StrEnum Flag IntFlag Generic Protocol ABC ABCMeta
namedtuple NamedTuple TypedDict TYPE_CHECKING abstractmethod""".split())
PYTHONS = {name for kind in (str, int, list, dict, set, bytes, tuple) for name in vars(kind)}
FREE_VALUES = set("count index title find get join lower upper split strip copy add".split())


def trees():
    return [(path, ast.parse(path.read_text(encoding="utf-8"))) for path in FILES]


def nodes(kind):
    return [(path.name, node) for path, tree in trees() for node in ast.walk(tree) if isinstance(node, kind)]


def top_names(tree, kinds):
    return [node.name for node in tree.body if isinstance(node, kinds)]


def imported(tree):
    return [alias.name for node in tree.body if isinstance(node, ast.ImportFrom) for alias in node.names]


class LanguageTest(unittest.TestCase):
    def test_files(self):
        self.assertTrue((PACKAGE / "__init__.py").is_file())
        for path in PACKAGE.rglob("*"):
            if "__pycache__" in path.parts:
                continue
            self.assertRegex(path.name, r"^[a-z][a-z0-9_]*(\.py)?$|^__init__\.py$|^__main__\.py$")
            self.assertNotRegex(path.stem, r"^(test|tests|testing|test_.*|site|conftest)$")
            self.assertNotIn(path.stem, dir(builtins))

    def test_size_and_signs(self):
        for path in FILES:
            text = path.read_text(encoding="utf-8")
            self.assertLessEqual(len(text.splitlines()), 400, path)
            for line in text.split("\n"):
                self.assertLessEqual(len(line), 120, (path, line))
                self.assertRegex(line, r"^[ -~]*$", path)
        for name, node in nodes(ast.FunctionDef):
            self.assertLessEqual(node.end_lineno - node.lineno + 1, 40, (name, node.name))

    def test_words(self):
        for path in FILES:
            text = path.read_text(encoding="utf-8")
            for word in re.findall(r"[A-Za-z_][A-Za-z_0-9]*", text):
                self.assertNotIn(word, WORDS, path)
                self.assertNotRegex(word, "dataclass|overload|contextmanager")

    def test_statements_and_expressions(self):
        for name, node in nodes(ast.stmt):
            self.assertIsInstance(node, STATEMENTS, (name, node.lineno))
        for name, node in nodes(ast.expr):
            self.assertIsInstance(node, EXPRESSIONS, (name, node.lineno))
        for name, node in nodes(ast.Constant):
            self.assertIn(type(node.value), (int, str, bool, type(None)), (name, node.lineno))
        for name, node in nodes(ast.Assign):
            self.assertEqual(len(node.targets), 1, (name, node.lineno))
            self.assertNotIsInstance(node.targets[0], (ast.Tuple, ast.List), (name, node.lineno))
        for name, node in nodes((ast.For, ast.While)):
            self.assertEqual(node.orelse, [], (name, node.lineno))
        for name, node in nodes(ast.ListComp):
            self.assertEqual(len(node.generators), 1, (name, node.lineno))
            self.assertLessEqual(len(node.generators[0].ifs), 1, (name, node.lineno))
        for name, node in nodes(ast.BinOp):
            self.assertNotIsInstance(node.op, (ast.Div, ast.MatMult, ast.Pow), (name, node.lineno))
        for name, node in nodes(ast.Expr):
            self.assertIsInstance(node.value, (ast.Call, ast.Constant), (name, node.lineno))

    def test_is(self):
        for name, node in nodes(ast.Compare):
            for op, right in zip(node.ops, node.comparators):
                if isinstance(op, (ast.Is, ast.IsNot)):
                    self.assertIsInstance(right, ast.Constant, (name, node.lineno))

    def test_imports(self):
        draws = {}
        for path, tree in trees():
            drawn = []
            for node in ast.walk(tree):
                if isinstance(node, ast.ImportFrom):
                    self.assertIn(node, tree.body)
                    self.assertEqual(node.level, 0)
                    self.assertTrue(node.module.startswith("margintext."), (path, node.module))
                    source = PACKAGE / (node.module.split(".")[1] + ".py")
                    body = ast.parse(source.read_text(encoding="utf-8"))
                    defined = top_names(body, (ast.FunctionDef, ast.ClassDef))
                    for alias in node.names:
                        self.assertIn(alias.name, defined, path)
                        self.assertIsNone(alias.asname)
                    drawn.append(source.stem)
            draws[path.stem] = drawn
        self.assertEqual(draws["__init__"], [])
        while draws:
            ready = [name for name, drawn in draws.items() if not any(other in draws for other in drawn)]
            self.assertTrue(ready, "files draw from one another")
            for name in ready:
                draws.pop(name)

    def test_tops(self):
        for path, tree in trees():
            bound = imported(tree)
            defs = []
            for node in tree.body:
                if isinstance(node, (ast.FunctionDef, ast.ClassDef)):
                    bound.append(node.name)
                    defs.append(node.name)
                elif isinstance(node, ast.Assign):
                    bound.append(node.targets[0].id)
                    for part in ast.walk(node.value):
                        self.assertIsInstance(part, (ast.Constant, ast.Tuple, ast.List, ast.Dict, ast.Name, ast.Load,
                                                     ast.UnaryOp, ast.USub), path)
                        if isinstance(part, ast.Name):
                            self.assertIn(part.id, defs, path)
                elif isinstance(node, ast.Expr):
                    self.assertIs(node, tree.body[0])
                else:
                    self.assertIsInstance(node, ast.ImportFrom)
            self.assertEqual(len(bound), len(set(bound)), path)

    def test_functions_and_classes(self):
        for name, node in nodes(ast.FunctionDef):
            given = node.args
            self.assertEqual((given.vararg, given.kwarg, given.kwonlyargs, given.posonlyargs, node.decorator_list),
                             (None, None, [], [], []), (name, node.name))
        for name, node in nodes(ast.ClassDef):
            self.assertLessEqual(len(node.bases), 1)
            self.assertEqual((node.decorator_list, node.keywords), ([], []))
            for part in node.body:
                docstring = isinstance(part, ast.Expr) and isinstance(part.value, ast.Constant)
                self.assertTrue(docstring or isinstance(part, ast.FunctionDef), (name, node.name))
            methods = [part.name for part in node.body if isinstance(part, ast.FunctionDef)]
            self.assertEqual(len(methods), len(set(methods)))

    def test_names(self):
        for path, tree in trees():
            taken = set(imported(tree)) | set(top_names(tree, ast.ClassDef))
            for node in ast.walk(tree):
                if isinstance(node, ast.Name) and isinstance(node.ctx, ast.Load) and node.id in dir(builtins):
                    self.assertIn(node.id, BUILTINS, (path, node.lineno))
                if isinstance(node, ast.arg) or isinstance(node, ast.Name) and isinstance(node.ctx, ast.Store):
                    name = node.arg if isinstance(node, ast.arg) else node.id
                    self.assertNotIn(name, dir(builtins), (path, node.lineno))
                    self.assertNotIn(name, taken, (path, node.lineno))
                    self.assertFalse(name.startswith("_"), (path, node.lineno))
                    self.assertNotIn(name, NEVER, (path, node.lineno))
                if isinstance(node, (ast.FunctionDef, ast.ClassDef)):
                    self.assertTrue(not node.name.startswith("_") or node.name in OWN_METHODS, (path, node.name))
                    self.assertNotIn(node.name, NEVER, path)
                    self.assertNotIn(node.name, dir(builtins), path)

    def test_attributes(self):
        own = {part.name for name, node in nodes(ast.ClassDef) for part in node.body
               if isinstance(part, ast.FunctionDef)}
        values = {node.attr for name, node in nodes(ast.Attribute) if isinstance(node.ctx, ast.Store)}
        called_names = {node.func.attr for name, node in nodes(ast.Call) if isinstance(node.func, ast.Attribute)}
        self.assertEqual(own & values, set())
        self.assertEqual(values & PYTHONS - FREE_VALUES, set())
        self.assertEqual((values | own) & NEVER, set())
        self.assertEqual(called_names - METHODS - own, set())
        for name, node in nodes(ast.Attribute):
            self.assertFalse(node.attr.startswith("_"), (name, node.attr))


if __name__ == "__main__":
    unittest.main()
