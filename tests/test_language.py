"""The package keeps to the part of Python that it is written in."""

import ast
import builtins
import pathlib
import re
import unittest

PACKAGE = pathlib.Path(__file__).resolve().parent.parent / "stationpack"
FILES = sorted(path for path in PACKAGE.rglob("*") if path.is_file() and "__pycache__" not in path.parts)

STATEMENTS = (ast.FunctionDef, ast.ClassDef, ast.Assign, ast.AugAssign, ast.If, ast.While, ast.For, ast.Return,
              ast.Break, ast.Continue, ast.Pass, ast.Raise, ast.Try, ast.ImportFrom, ast.Expr)
EXPRESSIONS = (ast.Constant, ast.Name, ast.List, ast.Tuple, ast.Dict, ast.BinOp, ast.UnaryOp, ast.BoolOp, ast.Compare,
               ast.IfExp, ast.Call, ast.Attribute, ast.Subscript, ast.Slice, ast.ListComp, ast.Lambda)
OWN_NAMES = set("""len range enumerate zip min max sum abs sorted reversed int str bool list tuple dict isinstance ord
    repr any all divmod Exception KeyError ZeroDivisionError""".split())
METHODS = set("""append clear copy count extend find get index insert items join keys pop remove replace reverse
    setdefault update values bit_length""".split())
WORDS = set("""type typing typing_extensions enum Enum IntEnum StrEnum Flag IntFlag Generic Protocol ABC ABCMeta
    namedtuple NamedTuple TypedDict TYPE_CHECKING abstractmethod""".split())
# Named nowhere, or not as names: what of L17 a plain word could fall into.
UNUSED = set("""register mro elements open input version_info with_traceback add_note attrgetter breakpoint builtins
    compile copyright credits delattr dir eval exec exit gc getattr globals hasattr help id importlib license locals
    methodcaller os quit setattr super sys vars format format_map sort args encode""".split())
WALKED = ("zip", "enumerate", "reversed", "range", "items", "keys", "values")
WALKERS = ("list", "tuple", "dict", "sorted", "sum", "any", "all", "enumerate", "zip", "min", "max")
KEYWORDS = {("sorted", "key"), ("sorted", "reverse"), ("min", "key"), ("min", "default"), ("max", "key"),
            ("max", "default"), ("sum", "start"), ("enumerate", "start"), ("zip", "strict")}
DUNDERS = ("__init__", "__eq__", "__repr__", "__str__", "__len__")


def trees():
    return [(path.name, ast.parse(path.read_text())) for path in FILES]


def nodes(kind):
    return [(name, node) for name, tree in trees() for node in ast.walk(tree) if isinstance(node, kind)]


class Language(unittest.TestCase):
    def test_files(self):
        self.assertIn(PACKAGE / "__init__.py", FILES)
        for path in FILES:
            self.assertRegex(path.name, r"^(__init__|[a-z][a-z0-9_]*)\.py$")
            self.assertNotIn(path.stem, [word for word in dir(builtins) if not word.startswith("__")])

    def test_signs_sizes_and_words(self):
        for path in FILES:
            text = path.read_text()
            self.assertRegex(text, r"^[ -~\n]*$", path)
            self.assertLessEqual(len(text.splitlines()), 400, path)
            self.assertLessEqual(max(len(line) for line in text.splitlines()), 120, path)
            self.assertEqual(WORDS & set(re.findall(r"\w+", text)), set(), path)

    def test_functions_are_short_and_plain(self):
        for name, node in nodes(ast.FunctionDef):
            self.assertLessEqual(node.end_lineno - node.lineno + 1, 40, (name, node.name))
            self.assertEqual(node.decorator_list, [])
            self.assertIsNone(node.args.vararg or node.args.kwarg or None)
            self.assertEqual(node.args.kwonlyargs, [])

    def test_statements_and_expressions(self):
        for name, node in nodes((ast.stmt, ast.expr)):
            self.assertIsInstance(node, STATEMENTS + EXPRESSIONS, (name, node.lineno))
        for name, node in nodes((ast.For, ast.While)):
            self.assertEqual(node.orelse, [], (name, node.lineno))
        for name, node in nodes(ast.Assign):
            self.assertEqual(len(node.targets), 1, (name, node.lineno))
            self.assertNotIsInstance(node.targets[0], ast.Tuple, (name, node.lineno))
        for name, node in nodes(ast.BinOp):
            self.assertNotIsInstance(node.op, (ast.Div, ast.Pow, ast.MatMult), (name, node.lineno))
        for name, node in nodes(ast.Constant):
            self.assertIsInstance(node.value, (int, str, type(None)), (name, node.lineno))

    def test_imports_are_of_the_very_file_and_in_no_ring(self):
        drawn = {}
        for name, tree in trees():
            rows = [node for node in tree.body if isinstance(node, ast.ImportFrom)]
            drawn[name] = [row.module.split(".")[1] + ".py" for row in rows]
            for row in rows:
                top = ast.parse((PACKAGE / (row.module.split(".")[1] + ".py")).read_text()).body
                defined = {node.name for node in top if isinstance(node, (ast.FunctionDef, ast.ClassDef))}
                defined |= {node.targets[0].id for node in top if isinstance(node, ast.Assign)}
                self.assertLessEqual({alias.name for alias in row.names}, defined, name)
        while drawn:
            free = [name for name in drawn if not any(other in drawn for other in drawn[name])]
            self.assertNotEqual(free, [], drawn)
            drawn = {name: others for name, others in drawn.items() if name not in free}

    def test_names(self):
        for name, tree in trees():
            imports = {alias.name for node in ast.walk(tree) if isinstance(node, ast.ImportFrom) for alias in node.names}
            classes = {node.name for node in ast.walk(tree) if isinstance(node, ast.ClassDef)}
            bound = {node.arg for node in ast.walk(tree) if isinstance(node, ast.arg)}
            bound |= {node.id for node in ast.walk(tree) if isinstance(node, ast.Name) and isinstance(node.ctx, ast.Store)}
            read = {node.id for node in ast.walk(tree) if isinstance(node, ast.Name)}
            self.assertEqual(bound & (imports | classes | set(dir(builtins))), set(), name)
            self.assertLessEqual(read & set(dir(builtins)), OWN_NAMES, name)
            for word in bound | read | imports | classes:
                self.assertRegex(word, r"^[A-Za-z]\w*$", name)

    def test_methods_and_values(self):
        own = [node for name, tree in nodes(ast.ClassDef) for node in tree.body if isinstance(node, ast.FunctionDef)]
        methods = {node.name for node in own}
        values = {node.attr for name, node in nodes(ast.Attribute) if isinstance(node.ctx, ast.Store)}
        self.assertEqual(methods & values, set())
        called = {node.func.attr for name, node in nodes(ast.Call) if isinstance(node.func, ast.Attribute)}
        self.assertLessEqual(called, methods | METHODS)
        python = {word for kind in (str, int, list, dict, set, bytes) for word in dir(kind)}
        self.assertEqual(values & python, set())
        self.assertLessEqual(methods & python, {"add"} | set(DUNDERS))

    def test_the_top_of_a_file(self):
        for name, tree in trees():
            self.assertIsInstance(ast.get_docstring(tree), str, name)
            bound = []
            for node in tree.body[1:]:
                self.assertIsInstance(node, (ast.ImportFrom, ast.FunctionDef, ast.ClassDef, ast.Assign), (name, node.lineno))
                if isinstance(node, ast.Assign):
                    ast.literal_eval(node.value)
                    bound.append(node.targets[0].id)
                elif isinstance(node, ast.ImportFrom):
                    self.assertEqual((node.level, node.module.split(".")[0]), (0, PACKAGE.name), name)
                    bound += [alias.name for alias in node.names]
                    self.assertEqual([alias.asname for alias in node.names], [None] * len(node.names), name)
                else:
                    bound.append(node.name)
            self.assertEqual(len(bound), len(set(bound)), name)
            tops = [node for node in ast.walk(tree) if isinstance(node, (ast.ClassDef, ast.ImportFrom))]
            self.assertLessEqual(set(tops), set(tree.body), name)

    def test_classes(self):
        for name, node in nodes(ast.ClassDef):
            self.assertLessEqual(len(node.bases), 1, (name, node.name))
            self.assertEqual((node.keywords, node.decorator_list), ([], []), (name, node.name))
            methods = [part.name for part in node.body if isinstance(part, ast.FunctionDef)]
            self.assertEqual(len(methods), len(set(methods)), (name, node.name))
            self.assertLessEqual({type(part) for part in node.body}, {ast.FunctionDef, ast.Pass}, (name, node.name))

    def test_no_annotations(self):
        for name, node in nodes((ast.FunctionDef, ast.arg)):
            self.assertIsNone(node.returns if isinstance(node, ast.FunctionDef) else node.annotation, (name, node.lineno))

    def test_is_stands_beside_written_values_alone(self):
        for name, node in nodes(ast.Compare):
            for op, right in zip(node.ops, node.comparators):
                if isinstance(op, (ast.Is, ast.IsNot)):
                    self.assertIn(getattr(right, "value", 0), (None, True, False), (name, node.lineno))

    def test_errors_are_the_programs_own(self):
        own = {node.name for name, node in nodes(ast.ClassDef)}
        for name, node in nodes(ast.Try):
            self.assertEqual(node.finalbody, [], (name, node.lineno))
        for name, node in nodes(ast.ExceptHandler):
            self.assertIn(node.type.id, own | {"KeyError", "ZeroDivisionError"}, (name, node.lineno))
        for name, node in nodes(ast.Raise):
            self.assertIn(node.exc.func.id, own, (name, node.lineno))

    def test_names_that_are_not_used(self):
        for name, node in nodes((ast.Name, ast.Attribute, ast.arg, ast.FunctionDef, ast.ClassDef)):
            word = [getattr(node, part) for part in ("id", "attr", "arg", "name") if hasattr(node, part)][0]
            self.assertNotIn(word, UNUSED, (name, node.lineno))

    def test_keywords(self):
        own = {node.name for name, node in nodes((ast.FunctionDef, ast.ClassDef))}
        for name, node in nodes(ast.Call):
            for keyword in node.keywords:
                called = getattr(node.func, "id", None) or node.func.attr
                self.assertTrue(called in own or (called, keyword.arg) in KEYWORDS, (name, node.lineno))

    def test_walked_at_once(self):
        on_the_spot = []
        for name, node in nodes((ast.For, ast.comprehension)):
            on_the_spot.append(ast.dump(node.iter, include_attributes=True))
        for name, node in nodes(ast.Call):
            if getattr(node.func, "id", None) in WALKERS:
                on_the_spot += [ast.dump(part, include_attributes=True) for part in node.args[:1]]
        for name, node in nodes(ast.Call):
            called = getattr(node.func, "id", None) or getattr(node.func, "attr", None)
            if called in WALKED:
                self.assertIn(ast.dump(node, include_attributes=True), on_the_spot, (name, node.lineno))

    def test_comprehensions_have_one_for_and_at_most_one_if(self):
        for name, node in nodes(ast.ListComp):
            self.assertEqual(len(node.generators), 1, (name, node.lineno))
            self.assertLessEqual(len(node.generators[0].ifs), 1, (name, node.lineno))

    def test_texts(self):
        for name, node in nodes(ast.Constant):
            if isinstance(node.value, str):
                self.assertNotIn("%", node.value, (name, node.lineno))


if __name__ == "__main__":
    unittest.main()
