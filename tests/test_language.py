"""The package keeps to the part of Python that it is written in."""

import ast
import builtins
import pathlib
import re
import unittest

PACKAGE = pathlib.Path(__file__).resolve().parent.parent / "stationpack"
FILES = sorted(path for path in PACKAGE.rglob("*") if path.is_file() and "__pycache__" not in path.parts)

STATEMENTS = (ast.FunctionDef, ast.ClassDef, ast.Assign, ast.AugAssign, ast.If, ast.While, ast.For, ast.Return,
              ast.Break, ast.Continue, ast.Pass, ast.Raise, ast.Try, ast.ImportFrom, ast.Expr)
EXPRESSIONS = (ast.Constant, ast.Name, ast.List, ast.Tuple, ast.Dict, ast.BinOp, ast.UnaryOp, ast.BoolOp, ast.Compare,
               ast.IfExp, ast.Call, ast.Attribute, ast.Subscript, ast.Slice, ast.ListComp, ast.Lambda)
OWN_NAMES = set("""len range enumerate zip min max sum abs sorted reversed int str bool list tuple dict isinstance ord
    repr any all divmod Exception KeyError ZeroDivisionError""".split())
METHODS = set("""append clear copy count extend find get index insert items join keys pop remove replace reverse
    setdefault update values bit_length""".split())
WORDS = set("""type typing typing_extensions enum Enum IntEnum StrEnum Flag IntFlag Generic Protocol ABC ABCMeta
    namedtuple NamedTuple TypedDict TYPE_CHECKING abstractmethod""".split())
DUNDERS = ("__init__", "__eq__", "__repr__", "__str__", "__len__")


def trees():
    return [(path.name, ast.parse(path.read_text())) for path in FILES]


def nodes(kind):
    return [(name, node) for name, tree in trees() for node in ast.walk(tree) if isinstance(node, kind)]


class Language(unittest.TestCase):
    def test_files(self):
        self.assertIn(PACKAGE / "__init__.py", FILES)
        for path in FILES:
            self.assertRegex(path.name, r"^(__init__|[a-z][a-z0-9_]*)\.py$")
            self.assertNotIn(path.stem, [word for word in dir(builtins) if not word.startswith("__")])

    def test_signs_sizes_and_words(self):
        for path in FILES:
            text = path.read_text()
            self.assertRegex(text, r"^[ -~\n]*$", path)
            self.assertLessEqual(len(text.splitlines()), 400, path)
            self.assertLessEqual(max(len(line) for line in text.splitlines()), 120, path)
            self.assertEqual(WORDS & set(re.findall(r"\w+", text)), set(), path)

    def test_functions_are_short_and_plain(self):
        for name, node in nodes(ast.FunctionDef):
            self.assertLessEqual(node.end_lineno - node.lineno + 1, 40, (name, node.name))
            self.assertEqual(node.decorator_list, [])
            self.assertIsNone(node.args.vararg or node.args.kwarg or None)
            self.assertEqual(node.args.kwonlyargs, [])

    def test_statements_and_expressions(self):
        for name, node in nodes((ast.stmt, ast.expr)):
            self.assertIsInstance(node, STATEMENTS + EXPRESSIONS, (name, node.lineno))
        for name, node in nodes((ast.For, ast.While)):
            self.assertEqual(node.orelse, [], (name, node.lineno))
        for name, node in nodes(ast.Assign):
            self.assertEqual(len(node.targets), 1, (name, node.lineno))
            self.assertNotIsInstance(node.targets[0], ast.Tuple, (name, node.lineno))
        for name, node in nodes(ast.BinOp):
            self.assertNotIsInstance(node.op, (ast.Div, ast.Pow, ast.MatMult), (name, node.lineno))
        for name, node in nodes(ast.Constant):
            self.assertIsInstance(node.value, (int, str, type(None)), (name, node.lineno))

    def test_imports_are_of_the_very_file_and_in_no_ring(self):
        drawn = {}
        for name, tree in trees():
            rows = [node for node in tree.body if isinstance(node, ast.ImportFrom)]
            drawn[name] = [row.module.split(".")[1] + ".py" for row in rows]
            for row in rows:
                top = ast.parse((PACKAGE / (row.module.split(".")[1] + ".py")).read_text()).body
                defined = {node.name for node in top if isinstance(node, (ast.FunctionDef, ast.ClassDef))}
                defined |= {node.targets[0].id for node in top if isinstance(node, ast.Assign)}
                self.assertLessEqual({alias.name for alias in row.names}, defined, name)
        while drawn:
            free = [name for name in drawn if not any(other in drawn for other in drawn[name])]
            self.assertNotEqual(free, [], drawn)
            drawn = {name: others for name, others in drawn.items() if name not in free}

    def test_names(self):
        for name, tree in trees():
            imports = {alias.name for node in ast.walk(tree) if isinstance(node, ast.ImportFrom) for alias in node.names}
            classes = {node.name for node in ast.walk(tree) if isinstance(node, ast.ClassDef)}
            bound = {node.arg for node in ast.walk(tree) if isinstance(node, ast.arg)}
            bound |= {node.id for node in ast.walk(tree) if isinstance(node, ast.Name) and isinstance(node.ctx, ast.Store)}
            read = {node.id for node in ast.walk(tree) if isinstance(node, ast.Name)}
            self.assertEqual(bound & (imports | classes | set(dir(builtins))), set(), name)
            self.assertLessEqual(read & set(dir(builtins)), OWN_NAMES, name)
            for word in bound | read | imports | classes:
                self.assertRegex(word, r"^[A-Za-z]\w*$", name)

    def test_methods_and_values(self):
        own = [node for name, tree in nodes(ast.ClassDef) for node in tree.body if isinstance(node, ast.FunctionDef)]
        methods = {node.name for node in own}
        values = {node.attr for name, node in nodes(ast.Attribute) if isinstance(node.ctx, ast.Store)}
        self.assertEqual(methods & values, set())
        called = {node.func.attr for name, node in nodes(ast.Call) if isinstance(node.func, ast.Attribute)}
        self.assertLessEqual(called, methods | METHODS)
        python = {word for kind in (str, int, list, dict, set, bytes) for word in dir(kind)}
        self.assertEqual(values & python, set())
        self.assertLessEqual(methods & python, {"add"} | set(DUNDERS))


if __name__ == "__main__":
    unittest.main()
