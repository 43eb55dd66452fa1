"""The form of the package's own files: the rules of LANGUAGE.md that can be read off them."""

import ast
import builtins
import pathlib
import re
import unittest

PACKAGE = pathlib.Path(__file__).resolve().parent.parent / "leastfare"

STATEMENTS = (ast.Assign, ast.AugAssign, ast.If, ast.While, ast.For, ast.Return, ast.Break, ast.Continue, ast.Pass,
              ast.Raise, ast.Expr, ast.FunctionDef, ast.ClassDef, ast.ImportFrom)
EXPRESSIONS = (ast.Constant, ast.List, ast.Tuple, ast.Dict, ast.BinOp, ast.UnaryOp, ast.Compare, ast.BoolOp,
               ast.IfExp, ast.Call, ast.Attribute, ast.Subscript, ast.Slice, ast.ListComp, ast.Name)
CALLED = """len range enumerate zip min max sum abs sorted reversed int str bool list tuple dict isinstance
            any all divmod ValueError""".split()
METHODS = """append copy count extend get index insert items join keys pop remove reverse setdefault split update
             values""".split()
WORDS = """type typing typing_extensions enum Enum IntEnum StrEnum Flag IntFlag Generic Protocol ABC ABCMeta namedtuple
           NamedTuple TypedDict TYPE_CHECKING abstractmethod register mro elements open input""".split()


def paths():
    return sorted(path for path in PACKAGE.rglob("*") if "__pycache__" not in path.parts)


def trees():
    return [(path.name, ast.parse(path.read_text("utf-8"))) for path in paths()]


def nodes(kind):
    return [(name, node) for name, tree in trees() for node in ast.walk(tree) if isinstance(node, kind)]


def own_methods():
    return {item.name for name, node in nodes(ast.ClassDef) for item in node.body if isinstance(item, ast.FunctionDef)}


class Form(unittest.TestCase):
    def test_files(self):
        names = [path.name for path in paths()]
        self.assertIn("__init__.py", names)
        self.assertIn("fares.py", names)
        for path in paths():
            self.assertTrue(path.is_file() and re.fullmatch("[a-z][a-z0-9_]*[.]py|__init__[.]py", path.name), path)

    def test_size_and_signs(self):
        for path in paths():
            text = path.read_text("utf-8")
            self.assertRegex(text, re.compile(r"\A[ -~\n]*\Z"), path)
            self.assertLessEqual(len(text.splitlines()), 400, path)
            self.assertLessEqual(max(map(len, text.splitlines())), 120, path)
        for name, node in nodes(ast.FunctionDef):
            self.assertLessEqual(node.end_lineno - node.lineno + 1, 40, (name, node.name))

    def test_words_that_stand_nowhere(self):
        for path in paths():
            text = path.read_text("utf-8")
            self.assertFalse(set(re.findall("[A-Za-z_0-9]+", text)) & set(WORDS), path)
            self.assertNotRegex(text, "dataclass|overload|contextmanager", path)

    def test_imports_are_the_package_s_own(self):
        for name, node in nodes(ast.ImportFrom):
            self.assertEqual((node.level, node.module.split(".")[0]), (0, "leastfare"), name)
            self.assertNotIn("*", [alias.name for alias in node.names], name)

    def test_statements_and_expressions(self):
        for name, node in nodes((ast.stmt, ast.expr)):
            self.assertIsInstance(node, STATEMENTS + EXPRESSIONS, (name, node.lineno))
        for name, node in nodes((ast.For, ast.While)):
            self.assertFalse(node.orelse, (name, node.lineno))
        for name, node in nodes(ast.Assign):
            self.assertEqual(len(node.targets), 1, (name, node.lineno))
            self.assertIsInstance(node.targets[0], (ast.Name, ast.Attribute, ast.Subscript), (name, node.lineno))
        for name, node in nodes(ast.BinOp):
            self.assertNotIsInstance(node.op, (ast.Div, ast.Pow, ast.MatMult), (name, node.lineno))
        for name, node in nodes(ast.ListComp):
            self.assertTrue(len(node.generators) == 1 and len(node.generators[0].ifs) <= 1, (name, node.lineno))
        for name, node in nodes(ast.Constant):
            self.assertIsInstance(node.value, (int, str, type(None)), (name, node.lineno))

    def test_functions_are_plain(self):
        for name, node in nodes(ast.FunctionDef):
            told = node.args
            self.assertFalse(node.decorator_list or told.vararg or told.kwarg or told.kwonlyargs or told.posonlyargs)

    def test_names(self):
        for name, node in nodes(ast.Name):
            self.assertRegex(node.id, "^[A-Za-z]", (name, node.lineno))
            if hasattr(builtins, node.id):
                self.assertIsInstance(node.ctx, ast.Load, (name, node.lineno))
                self.assertIn(node.id, CALLED, (name, node.lineno))
        for name, node in nodes(ast.arg):
            self.assertFalse(hasattr(builtins, node.arg), (name, node.lineno))

    def test_methods(self):
        for name, node in nodes(ast.Call):
            if isinstance(node.func, ast.Attribute):
                self.assertIn(node.func.attr, set(METHODS) | own_methods(), (name, node.lineno))

    def test_no_name_is_a_method_and_a_value(self):
        stored = {node.attr for name, node in nodes(ast.Attribute) if isinstance(node.ctx, ast.Store)}
        self.assertFalse(stored & own_methods())

    def test_own_methods_and_values_are_not_like_python_s(self):
        stored = {node.attr for name, node in nodes(ast.Attribute) if isinstance(node.ctx, ast.Store)}
        python_s = {name for kind in (str, int, list, dict, set, bytes) for name in dir(kind)}
        self.assertFalse((stored | own_methods() - {"__init__"}) & python_s)

    def test_no_file_draws_from_one_that_draws_from_it(self):
        drawn = {name: set() for name, tree in trees()}
        for name, node in nodes(ast.ImportFrom):
            drawn[name].add(node.module.split(".")[1] + ".py")
        while drawn:
            free = [name for name in drawn if not drawn[name] & set(drawn)]
            self.assertTrue(free, drawn)
            drawn = {name: drawn[name] for name in drawn if name not in free}

    def test_each_name_once_at_the_top(self):
        for name, tree in trees():
            bound = []
            for node in tree.body:
                if isinstance(node, ast.Assign):
                    bound.append(node.targets[0].id)
                elif isinstance(node, ast.ImportFrom):
                    bound += [alias.name for alias in node.names]
                elif isinstance(node, (ast.FunctionDef, ast.ClassDef)):
                    bound.append(node.name)
            self.assertEqual(len(bound), len(set(bound)), name)
            inner = {node.id for node in ast.walk(tree) if isinstance(node, ast.Name)
                     and isinstance(node.ctx, ast.Store) and node not in
                     [target for item in tree.body if isinstance(item, ast.Assign) for target in item.targets]}
            inner |= {node.arg for node in ast.walk(tree) if isinstance(node, ast.arg)}
            self.assertFalse(inner & set(bound), name)


if __name__ == "__main__":
    unittest.main()
