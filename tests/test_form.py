"""The form of the package's files: the rules of the language that a walk through the code can see."""

import ast
import builtins
import pathlib
import re
import unittest

PACKAGE = pathlib.Path(__file__).resolve().parent.parent / "leaveoffers"

STATEMENTS = (
    ast.FunctionDef, ast.Return, ast.Assign, ast.AugAssign, ast.If, ast.While, ast.For, ast.Expr,
    ast.Break, ast.Continue, ast.Pass)
BUILT_IN = {
    "len", "range", "enumerate", "zip", "min", "max", "sum", "abs", "sorted", "reversed", "int", "str", "bool",
    "list", "tuple", "dict", "isinstance", "any", "all", "divmod"}
REFUSED = (
    ast.Import, ast.ImportFrom, ast.Div, ast.GeneratorExp, ast.SetComp, ast.DictComp, ast.NamedExpr,
    ast.Starred, ast.Lambda, ast.Set)
REFUSED_WORDS = re.compile(
    r"\b(type|typing|typing_extensions|enum|Enum|IntEnum|StrEnum|Flag|IntFlag|Generic|Protocol|ABC|ABCMeta"
    r"|namedtuple|NamedTuple|TypedDict|TYPE_CHECKING|abstractmethod)\b|dataclass|overload|contextmanager")


class Form(unittest.TestCase):
    def setUp(self):
        self.files = {path.name: path.read_text(encoding="ascii") for path in sorted(PACKAGE.glob("*.py"))}
        self.trees = {name: ast.parse(text) for name, text in self.files.items()}

    def nodes(self):
        return [(name, node) for name, tree in self.trees.items() for node in ast.walk(tree)]

    def test_the_files(self):
        self.assertEqual(sorted(self.files), ["__init__.py", "offers.py"])
        others = [path.name for path in PACKAGE.iterdir()
                  if path.suffix != ".py" and path.name != "__pycache__"]
        self.assertEqual(others, [])

    def test_sizes_and_signs(self):
        for name, text in self.files.items():
            lines = text.split("\n")
            self.assertLessEqual(len(lines), 400, name)
            self.assertLessEqual(max(len(line) for line in lines), 120, name)
            self.assertRegex(text, r"\A[ -~\n]*\Z")
            self.assertIsNone(REFUSED_WORDS.search(text))
        for name, node in self.nodes():
            if isinstance(node, ast.FunctionDef):
                self.assertLessEqual(node.end_lineno - node.lineno + 1, 40, node.name)

    def test_only_plain_statements_and_expressions_and_no_imports(self):
        for name, node in self.nodes():
            if isinstance(node, ast.stmt):
                self.assertIsInstance(node, STATEMENTS, f"{name}:{node.lineno}")
            self.assertNotIsInstance(node, REFUSED, name)
            if isinstance(node, ast.Constant):
                self.assertIn(type(node.value), (int, str, bool, type(None)), name)
            if isinstance(node, (ast.While, ast.For)):
                self.assertEqual(node.orelse, [], name)
            if isinstance(node, ast.Assign):
                self.assertEqual(len(node.targets), 1, name)

    def test_names(self):
        own = set(vars(builtins))
        for name, node in self.nodes():
            if isinstance(node, ast.Name):
                self.assertFalse(node.id.startswith("_"), node.id)
                if isinstance(node.ctx, ast.Store):
                    self.assertNotIn(node.id, own)
                elif node.id in own:
                    self.assertIn(node.id, BUILT_IN)
            if isinstance(node, (ast.FunctionDef, ast.arg)):
                self.assertNotIn(node.name if isinstance(node, ast.FunctionDef) else node.arg, own)

    def test_the_top_of_a_file_binds_each_name_once_and_does_nothing(self):
        for name, tree in self.trees.items():
            bound = []
            for node in tree.body:
                if isinstance(node, ast.Assign):
                    ast.literal_eval(node.value)
                    bound.append(node.targets[0].id)
                elif isinstance(node, ast.FunctionDef):
                    self.assertEqual(node.decorator_list, [], name)
                    bound.append(node.name)
                else:
                    self.assertIsInstance(node, ast.Expr, name)
                    self.assertIsInstance(node.value, ast.Constant, name)
            self.assertEqual(len(bound), len(set(bound)), name)


if __name__ == "__main__":
    unittest.main()
