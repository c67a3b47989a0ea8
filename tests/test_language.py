"""The form of the package's own files: the rules of its language that a look at the code can tell."""

import ast
import builtins
import pathlib
import re
import unittest

PACKAGE = pathlib.Path(__file__).resolve().parent.parent / "lastingshares"

NODES = (
    ast.Module, ast.Expr, ast.Assign, ast.AugAssign, ast.If, ast.While, ast.For, ast.Return, ast.Break,
    ast.Continue, ast.Pass, ast.FunctionDef, ast.arguments, ast.arg, ast.Name, ast.Constant, ast.List,
    ast.Tuple, ast.Dict, ast.BinOp, ast.UnaryOp, ast.BoolOp, ast.Compare, ast.IfExp, ast.Call, ast.keyword,
    ast.Attribute, ast.Subscript, ast.Slice, ast.ListComp, ast.comprehension, ast.JoinedStr,
    ast.FormattedValue, ast.expr_context, ast.operator, ast.unaryop, ast.boolop, ast.cmpop,
)

OPERATORS_LEFT_OUT = (ast.Div, ast.MatMult, ast.Pow)

OWN_NAMES = set(
    "len range enumerate zip min max sum abs sorted reversed int str list tuple dict set isinstance ord "
    "any all divmod".split())

METHODS = set(
    "append clear copy count endswith extend find get index insert isalnum isalpha isdigit islower isspace "
    "isupper items join keys ljust lower lstrip partition pop remove replace reverse rfind rjust rpartition "
    "rsplit rstrip setdefault split splitlines startswith strip update upper values zfill bit_length".split())

WORDS_LEFT_OUT = re.compile(
    r"\b(type|typing|typing_extensions|enum|Enum|IntEnum|StrEnum|Flag|IntFlag|Generic|Protocol|ABC|ABCMeta"
    r"|namedtuple|NamedTuple|TypedDict|TYPE_CHECKING|abstractmethod)\b|dataclass|overload|contextmanager")


def sources():
    return [(path.name, path.read_text(encoding="utf-8")) for path in sorted(PACKAGE.glob("*.py"))]


def nodes():
    return [(name, node) for name, source in sources() for node in ast.walk(ast.parse(source))]


class Form(unittest.TestCase):
    def test_files(self):
        found = sorted(path.name for path in PACKAGE.iterdir() if path.name != "__pycache__")
        self.assertEqual(found, ["__init__.py", "groups.py"])

    def test_sizes_and_signs(self):
        for name, source in sources():
            lines = source.split("\n")
            self.assertLessEqual(len(lines), 400, name)
            self.assertLessEqual(max(len(line) for line in lines), 120, name)
            self.assertEqual(re.findall(r"[^\n -~]", source), [], name)
            self.assertIsNone(WORDS_LEFT_OUT.search(source), name)

    def test_statements_and_expressions(self):
        for name, node in nodes():
            place = (name, getattr(node, "lineno", 0), ast.dump(node)[:80])
            self.assertIsInstance(node, NODES, place)
            self.assertNotIsInstance(node, OPERATORS_LEFT_OUT, place)
            if isinstance(node, (ast.For, ast.While)):
                self.assertEqual(node.orelse, [], place)
            if isinstance(node, ast.Assign):
                self.assertEqual(len(node.targets), 1, place)
            if isinstance(node, ast.ListComp):
                self.assertEqual(len(node.generators), 1, place)
                self.assertLessEqual(len(node.generators[0].ifs), 1, place)
            if isinstance(node, ast.Constant):
                self.assertIn(type(node.value), (int, str, bool, type(None)), place)

    def test_functions(self):
        for name, node in nodes():
            if isinstance(node, ast.FunctionDef):
                place = (name, node.name)
                self.assertLessEqual(node.end_lineno - node.lineno + 1, 40, place)
                self.assertEqual(node.decorator_list, [], place)
                self.assertIsNone(node.args.vararg, place)
                self.assertIsNone(node.args.kwarg, place)
                self.assertEqual(node.args.kwonlyargs, [], place)

    def test_names(self):
        for name, node in nodes():
            place = (name, getattr(node, "lineno", 0))
            if isinstance(node, ast.Name):
                self.assertFalse(node.id.startswith("_"), place)
                if hasattr(builtins, node.id):
                    self.assertIn(node.id, OWN_NAMES, place)
                    self.assertIsInstance(node.ctx, ast.Load, place)
            if isinstance(node, (ast.arg, ast.FunctionDef)):
                own = node.arg if isinstance(node, ast.arg) else node.name
                self.assertFalse(own.startswith("_") or hasattr(builtins, own), place)
            if isinstance(node, ast.Attribute):
                self.assertIn(node.attr, METHODS, place)

    def test_names_of_the_top_are_bound_once_and_stay_unshadowed(self):
        for name, source in sources():
            tree = ast.parse(source)
            top = [node.name for node in tree.body if isinstance(node, ast.FunctionDef)]
            top += [node.targets[0].id for node in tree.body if isinstance(node, ast.Assign)]
            self.assertEqual(sorted(top), sorted(set(top)), name)
            for function in [node for node in tree.body if isinstance(node, ast.FunctionDef)]:
                inner = [node.arg for node in ast.walk(function) if isinstance(node, ast.arg)]
                inner += [node.id for node in ast.walk(function)
                          if isinstance(node, ast.Name) and isinstance(node.ctx, ast.Store)]
                self.assertEqual(sorted(set(inner) & set(top)), [], (name, function.name))


if __name__ == "__main__":
    unittest.main()
