"""The package's files against those rules of its small part of Python that can be seen in its tree."""

import ast
import builtins
import pathlib
import re
import unittest

PACKAGE = pathlib.Path(__file__).resolve().parent.parent / "strikecase"
FILES = sorted(path for path in PACKAGE.iterdir() if path.suffix == ".py")

OWN_NAMES = set("""len range enumerate zip min max sum abs sorted reversed int str bool list tuple dict set frozenset
isinstance ord repr any all divmod Exception ValueError TypeError KeyError IndexError LookupError ZeroDivisionError
ArithmeticError OverflowError RuntimeError NotImplementedError AttributeError StopIteration""".split())
METHODS = set("""append clear copy count endswith extend find get index insert isalnum isalpha isdigit islower isspace
isupper items join keys ljust lower lstrip partition pop remove replace reverse rfind rjust rpartition rsplit rstrip
setdefault split splitlines startswith strip update upper values zfill bit_length""".split())
WORDS = re.compile(r"\b(type|typing|typing_extensions|enum|Enum|IntEnum|StrEnum|Flag|IntFlag|Generic|Protocol|ABC"
                   r"|ABCMeta|namedtuple|NamedTuple|TypedDict|TYPE_CHECKING|abstractmethod)\b"
                   r"|dataclass|overload|contextmanager")
NODES = (
    ast.Module, ast.ImportFrom, ast.alias, ast.FunctionDef, ast.arguments, ast.arg, ast.ClassDef, ast.Lambda,
    ast.Assign, ast.AugAssign, ast.If, ast.While, ast.For, ast.Return, ast.Break, ast.Continue, ast.Pass, ast.Raise,
    ast.Try, ast.ExceptHandler, ast.Expr, ast.Call, ast.keyword, ast.Constant, ast.List, ast.Tuple, ast.Dict,
    ast.BinOp, ast.UnaryOp, ast.BoolOp, ast.Compare, ast.IfExp, ast.Attribute, ast.Subscript, ast.Slice,
    ast.ListComp, ast.comprehension, ast.Name, ast.expr_context, ast.operator, ast.unaryop, ast.boolop, ast.cmpop,
)


def bound_names(tree):
    for node in ast.walk(tree):
        if isinstance(node, ast.Name) and isinstance(node.ctx, ast.Store):
            yield node.id
        elif isinstance(node, ast.arg):
            yield node.arg


# The name of what is called, of a function or a method; of anything else None.
def called(node):
    if not isinstance(node, ast.Call):
        return None
    return node.func.attr if isinstance(node.func, ast.Attribute) else getattr(node.func, "id", None)


class Language(unittest.TestCase):
    def each(self):
        for path in FILES:
            yield path, path.read_text(encoding="utf-8")

    def test_files(self):
        self.assertIn(PACKAGE / "__init__.py", FILES)
        for path in PACKAGE.iterdir():
            if path.name != "__pycache__":
                self.assertRegex(path.name, r"\A([a-z][a-z0-9_]*|__init__)\.py\Z")

    def test_size_and_signs(self):
        for path, source in self.each():
            rows = source.split("\n")
            self.assertLessEqual(len(rows), 400)
            self.assertLessEqual(max(len(row) for row in rows), 120)
            self.assertRegex(source, r"\A[ -~\n]*\Z")
            self.assertIsNone(WORDS.search(source))
            for node in ast.walk(ast.parse(source)):
                if isinstance(node, ast.FunctionDef):
                    self.assertLessEqual(node.end_lineno - node.lineno + 1, 40, node.name)

    def test_statements_and_expressions(self):
        for path, source in self.each():
            tree = ast.parse(source)
            for node in ast.walk(tree):
                self.assertIsInstance(node, NODES, ast.dump(node))
                self.assertNotIsInstance(node, (ast.Div, ast.MatMult))
                if isinstance(node, ast.Constant):
                    self.assertIn(type(node.value), (int, str, bool, type(None)))
                if isinstance(node, ast.Expr) and node is not tree.body[0]:
                    self.assertIsInstance(node.value, ast.Call)
                if isinstance(node, (ast.For, ast.While)):
                    self.assertEqual(node.orelse, [])
                if isinstance(node, ast.Assign):
                    self.assertEqual(len(node.targets), 1)
                if isinstance(node, ast.ListComp):
                    self.assertEqual(len(node.generators), 1)
                    self.assertLessEqual(len(node.generators[0].ifs), 1)

    def test_top_of_a_file(self):
        for path, source in self.each():
            for node in ast.parse(source).body[1:]:
                self.assertIsInstance(node, (ast.ImportFrom, ast.FunctionDef, ast.ClassDef, ast.Assign))
                if isinstance(node, ast.ImportFrom):
                    self.assertRegex(node.module, r"\Astrikecase\.[a-z]+\Z")
                    self.assertTrue(all(name.asname is None and name.name != "*" for name in node.names))
                if isinstance(node, ast.Assign):
                    ast.literal_eval(node.value)

    def test_names(self):
        for path, source in self.each():
            tree = ast.parse(source)
            top = {name.name for node in tree.body if isinstance(node, ast.ImportFrom) for name in node.names}
            classes = {node.name for node in tree.body if isinstance(node, ast.ClassDef)}
            for name in bound_names(tree):
                self.assertRegex(name, r"\A[A-Za-z][A-Za-z0-9_]*\Z")
                self.assertFalse(hasattr(builtins, name), name)
                self.assertNotIn(name, top | classes)
            for node in ast.walk(tree):
                if isinstance(node, ast.Name) and isinstance(node.ctx, ast.Load) and hasattr(builtins, node.id):
                    self.assertIn(node.id, OWN_NAMES)
                if isinstance(node, ast.Call) and isinstance(node.func, ast.Attribute):
                    self.assertIn(node.func.attr, METHODS)

    def test_powers_texts_and_is(self):
        for path, source in self.each():
            for node in ast.walk(ast.parse(source)):
                if isinstance(node, ast.BinOp) and isinstance(node.op, ast.Pow):
                    self.assertIsInstance(node.right, ast.Constant)
                if isinstance(node, ast.Constant) and isinstance(node.value, str):
                    self.assertNotIn("%", node.value)
                if isinstance(node, ast.Compare) and any(isinstance(op, (ast.Is, ast.IsNot)) for op in node.ops):
                    self.assertIn(ast.unparse(node.comparators[0]), ("None", "True", "False"))

    # What is walked stands behind the in of a for or straight in a call that walks it; a set straight in len or sorted.
    def test_walked_on_the_spot(self):
        walked = ("zip", "enumerate", "reversed", "range", "items", "keys", "values")
        walkers = ("list", "tuple", "dict", "sorted", "sum", "any", "all", "enumerate", "zip", "min", "max")
        for path, source in self.each():
            for parent in ast.walk(ast.parse(source)):
                for child in ast.iter_child_nodes(parent):
                    if called(child) in walked:
                        on_the_spot = isinstance(parent, (ast.For, ast.comprehension)) and parent.iter is child
                        self.assertTrue(on_the_spot or called(parent) in walkers, ast.unparse(parent))
                    if called(child) in ("set", "frozenset"):
                        self.assertIn(called(parent), ("len", "sorted"), ast.unparse(parent))

    def test_imports_make_no_ring(self):
        draws = {}
        for path, source in self.each():
            draws[path.stem] = {node.module.split(".")[1] for node in ast.parse(source).body
                                if isinstance(node, ast.ImportFrom)}
        while draws:
            free = [stem for stem, others in draws.items() if not others & set(draws)]
            self.assertTrue(free, draws)
            for stem in free:
                draws.pop(stem)


if __name__ == "__main__":
    unittest.main()
