"""The package's files keep to the part of Python that LANGUAGE.md tells, as far as a look at their form shows."""

import ast
import builtins
import pathlib
import re
import unittest

import citedcases

FOLDER = pathlib.Path(citedcases.__file__).parent
FILES = sorted(FOLDER.rglob("*.py"))

STATEMENTS = (ast.Assign, ast.AugAssign, ast.If, ast.While, ast.For, ast.Return, ast.Break, ast.Continue, ast.Pass,
              ast.Raise, ast.Try, ast.Expr, ast.FunctionDef, ast.ClassDef, ast.ImportFrom)
EXPRESSIONS = (ast.Constant, ast.Name, ast.List, ast.Tuple, ast.Dict, ast.BinOp, ast.UnaryOp, ast.BoolOp, ast.Compare,
               ast.IfExp, ast.Call, ast.Attribute, ast.Subscript, ast.Slice, ast.ListComp, ast.Lambda, ast.JoinedStr,
               ast.FormattedValue)
OWN_NAMES = set("""len range enumerate zip min max sum abs sorted reversed int str bool list tuple dict set frozenset
    isinstance ord repr any all divmod ValueError KeyError IndexError LookupError ZeroDivisionError ArithmeticError
    OverflowError RuntimeError NotImplementedError StopIteration""".split())
METHODS = set("""append clear copy count endswith extend find get index insert isalnum isalpha isdigit islower isspace
    isupper items join keys ljust lower lstrip partition pop remove replace reverse rfind rjust rpartition rsplit
    rstrip setdefault split splitlines startswith strip update upper values zfill bit_length""".split())
NOT_AS_VALUES = set("""items keys values pop update append clear extend insert remove reverse setdefault sort args
    encode format""".split())
NOT_SAID = """type typing typing_extensions enum Enum IntEnum StrEnum Flag IntFlag Generic Protocol ABC ABCMeta
    namedtuple NamedTuple TypedDict TYPE_CHECKING abstractmethod""".split()
CHANGING = set("append clear extend insert pop remove reverse setdefault update".split())
DUNDERS = ("__init__", "__eq__", "__repr__", "__str__", "__len__")


def bound_names(tree):
    for node in ast.walk(tree):
        if isinstance(node, ast.Name) and isinstance(node.ctx, ast.Store):
            yield node.id
        elif isinstance(node, ast.arg):
            yield node.arg
        elif isinstance(node, (ast.FunctionDef, ast.ClassDef)) and node.name not in DUNDERS:
            yield node.name
        elif isinstance(node, ast.Attribute) and isinstance(node.ctx, ast.Store):
            yield node.attr


def changed_texts(body):
    """What is stored into or changed by a method, as it is written, anywhere in these statements."""
    for statement in body:
        for node in ast.walk(statement):
            if isinstance(node, ast.Subscript) and isinstance(node.ctx, ast.Store):
                yield ast.unparse(node.value)
            elif isinstance(node, ast.Attribute) and node.attr in CHANGING:
                yield ast.unparse(node.value)
            elif isinstance(node, ast.AugAssign):
                yield ast.unparse(node.target)


class Language(unittest.TestCase):
    def nodes(self, *kinds):
        for path in FILES:
            for node in ast.walk(ast.parse(path.read_text())):
                if isinstance(node, kinds):
                    yield node, f"{path.name}:{node.lineno}"

    def test_nothing_but_plainly_named_files(self):
        self.assertIn(FOLDER / "__init__.py", FILES)
        for path in FOLDER.rglob("*"):
            if "__pycache__" not in path.parts:
                self.assertRegex(path.name, r"^(__init__|__main__|[a-z][a-z0-9_]*)\.py$")

    def test_signs_and_sizes(self):
        for path in FILES:
            text = path.read_bytes().decode("ascii")
            self.assertRegex(text, r"^[ -~\n]*$", path.name)
            rows = text.split("\n")
            self.assertLessEqual(len(rows), 400, path.name)
            self.assertLessEqual(max(len(row) for row in rows), 120, path.name)
        for node, where in self.nodes(ast.FunctionDef):
            self.assertLessEqual(node.end_lineno - node.lineno + 1, 40, where)

    def test_words_that_stand_nowhere(self):
        for path in FILES:
            text = path.read_text()
            for word in NOT_SAID:
                self.assertIsNone(re.search(rf"\b{word}\b", text), f"{path.name}: {word}")
            self.assertIsNone(re.search("dataclass|overload|contextmanager", text), path.name)

    def test_nothing_is_imported(self):
        self.assertEqual(list(self.nodes(ast.Import, ast.ImportFrom)), [])

    def test_statements_and_expressions(self):
        for node, where in self.nodes(ast.stmt):
            self.assertIsInstance(node, STATEMENTS, where)
            self.assertEqual(getattr(node, "decorator_list", []), [], where)
            if isinstance(node, (ast.For, ast.While)):
                self.assertEqual(node.orelse, [], where)
            if isinstance(node, ast.Assign):
                self.assertEqual(len(node.targets), 1, where)
        for node, where in self.nodes(ast.expr):
            self.assertIsInstance(node, EXPRESSIONS, where)
            if isinstance(node, ast.Constant):
                self.assertIsInstance(node.value, (int, str, type(None)), where)
            if isinstance(node, ast.BinOp):
                self.assertNotIsInstance(node.op, (ast.Div, ast.Pow, ast.MatMult), where)
            if isinstance(node, ast.ListComp):
                self.assertEqual(len(node.generators), 1, where)
                self.assertLessEqual(len(node.generators[0].ifs), 1, where)
            if isinstance(node, ast.Compare) and isinstance(node.ops[0], (ast.Is, ast.IsNot)):
                self.assertIn(ast.unparse(node.comparators[0]), ("None", "True", "False"), where)

    def test_parameters(self):
        for node, where in self.nodes(ast.FunctionDef):
            told = node.args
            self.assertFalse(told.vararg or told.kwarg or told.kwonlyargs or told.posonlyargs, where)
            self.assertFalse(node.returns or any(one.annotation for one in told.args), where)
            self.assertTrue(all(isinstance(value, ast.Constant) for value in told.defaults), where)

    def test_what_is_walked(self):
        for node, where in self.nodes(ast.For):
            self.assertNotIn(ast.unparse(node.iter), list(changed_texts(node.body)), where)
        for path in FILES:
            tree = ast.parse(path.read_text())
            on_the_spot = {id(node.iter) for node in ast.walk(tree) if isinstance(node, (ast.For, ast.comprehension))}
            for node in ast.walk(tree):
                if isinstance(node, ast.Call) and isinstance(node.func, ast.Name):
                    self.assertEqual(node.keywords, [], ast.unparse(node))
                    self.assertNotIn(node.func.id, ("set", "frozenset"), ast.unparse(node))
                    if node.func.id in ("range", "zip", "enumerate", "reversed"):
                        self.assertIn(id(node), on_the_spot, ast.unparse(node))

    def test_names(self):
        for path in FILES:
            tree = ast.parse(path.read_text())
            bound = set(bound_names(tree))
            for name in bound:
                self.assertRegex(name, r"^[A-Za-z][A-Za-z0-9_]*$", path.name)
                self.assertNotIn(name, dir(builtins), path.name)
            read = {node.id for node in ast.walk(tree) if isinstance(node, ast.Name)}
            self.assertEqual(read - bound - OWN_NAMES, set(), path.name)

    def test_methods_and_values_of_objects(self):
        own_methods = {part.name for node, _ in self.nodes(ast.ClassDef)
                       for part in node.body if isinstance(part, ast.FunctionDef)}
        values = {node.attr for node, _ in self.nodes(ast.Attribute) if isinstance(node.ctx, ast.Store)}
        self.assertEqual(values & (own_methods | NOT_AS_VALUES), set())
        for node, where in self.nodes(ast.Call):
            if isinstance(node.func, ast.Attribute):
                self.assertIn(node.func.attr, METHODS | own_methods, where)
        for node, where in self.nodes(ast.Attribute):
            self.assertIn(node.attr, METHODS | own_methods | values, where)

    def test_the_top_of_a_file(self):
        for path in FILES:
            names = []
            for node in ast.parse(path.read_text()).body:
                self.assertIsInstance(node, (ast.Expr, ast.Assign, ast.FunctionDef, ast.ClassDef), path.name)
                if isinstance(node, ast.Expr):
                    self.assertIsInstance(node.value, ast.Constant, path.name)
                elif isinstance(node, ast.Assign):
                    names.append(node.targets[0].id)
                else:
                    names.append(node.name)
            self.assertEqual(len(names), len(set(names)), path.name)


if __name__ == "__main__":
    unittest.main()
