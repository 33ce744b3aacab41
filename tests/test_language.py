"""The package keeps to its part of Python: what of those rules can be seen without much reckoning."""

import ast
import builtins
import pathlib
import re
import unittest

PACKAGE = pathlib.Path(__file__).resolve().parent.parent / "sandpipe"
OWN_NAMES = set(
    "len range enumerate zip min max sum abs sorted reversed int str bool list tuple dict set frozenset isinstance "
    "ord repr any all divmod Exception ValueError TypeError KeyError IndexError LookupError ZeroDivisionError "
    "ArithmeticError OverflowError RuntimeError NotImplementedError AttributeError StopIteration".split())
OWN_METHODS = set(
    "append clear copy count endswith extend find get index insert isalnum isalpha isdigit islower isspace isupper "
    "items join keys ljust lower lstrip partition pop remove replace reverse rfind rjust rpartition rsplit rstrip "
    "setdefault split splitlines startswith strip update upper values zfill bit_length".split())
WORDS = re.compile(
    r"\b(type|typing|typing_extensions|enum|Enum|IntEnum|StrEnum|Flag|IntFlag|Generic|Protocol|ABC|ABCMeta|namedtuple"
    r"|NamedTuple|TypedDict|TYPE_CHECKING|abstractmethod)\b|dataclass|overload|contextmanager")
NODES = (
    ast.Module, ast.FunctionDef, ast.ClassDef, ast.arguments, ast.arg, ast.ImportFrom, ast.alias, ast.Assign, ast.If,
    ast.While, ast.For, ast.Return, ast.Break, ast.Continue, ast.Pass, ast.Raise, ast.Expr, ast.Constant, ast.Name,
    ast.Attribute, ast.Subscript, ast.Slice, ast.Call, ast.BinOp, ast.UnaryOp, ast.BoolOp, ast.Compare, ast.IfExp,
    ast.List, ast.Tuple, ast.Dict, ast.ListComp, ast.comprehension, ast.JoinedStr, ast.FormattedValue,
    ast.expr_context, ast.operator, ast.unaryop, ast.boolop, ast.cmpop,
)
NOT_USED = (ast.Div, ast.MatMult, ast.Is, ast.IsNot)


def files():
    return sorted(PACKAGE.rglob("*.py"))


class Language(unittest.TestCase):
    def each_node(self):
        for file in files():
            for node in ast.walk(ast.parse(file.read_text())):
                yield f"{file.name}:{getattr(node, 'lineno', 0)}", node

    def test_files(self):
        names = [path.name for path in PACKAGE.iterdir() if path.name != "__pycache__"]
        self.assertEqual(sorted(names), [file.name for file in files()])
        for name in names:
            self.assertTrue(re.fullmatch(r"[a-z][a-z0-9_]*\.py|__init__\.py", name), name)

    def test_signs_sizes_and_words(self):
        for file in files():
            text = file.read_bytes().decode("ascii")
            self.assertTrue(re.fullmatch(r"[ -~\n]*", text), file.name)
            self.assertIsNone(WORDS.search(text), file.name)
            rows = text.split("\n")
            self.assertLessEqual(len(rows), 400, file.name)
            self.assertLessEqual(max(len(row) for row in rows), 120, file.name)

    def test_only_these_forms(self):
        for place, node in self.each_node():
            self.assertIsInstance(node, NODES, place)
            self.assertNotIsInstance(node, NOT_USED, place)
            if isinstance(node, ast.Constant):
                self.assertIn(type(node.value), (int, str, bool, type(None)), place)
            if isinstance(node, ast.Assign):
                self.assertEqual(len(node.targets), 1, place)
                self.assertNotIsInstance(node.targets[0], (ast.Tuple, ast.List), place)

    def test_functions(self):
        for place, node in self.each_node():
            if isinstance(node, ast.FunctionDef):
                self.assertLessEqual(node.end_lineno - node.lineno + 1, 40, place)
                self.assertEqual(node.decorator_list, [], place)
                told = node.args
                self.assertFalse(told.vararg or told.kwarg or told.kwonlyargs or told.posonlyargs, place)
                self.assertTrue(node.name == "__init__" or re.fullmatch(r"[A-Za-z][A-Za-z0-9_]*", node.name), place)

    def test_imports(self):
        for file in files():
            for node in ast.walk(ast.parse(file.read_text())):
                if isinstance(node, ast.ImportFrom):
                    self.assertEqual((node.level, node.module.split(".")[0]), (0, "sandpipe"), file.name)
                    home = ast.parse((PACKAGE / f"{node.module.split('.')[1]}.py").read_text())
                    for name in node.names:
                        self.assertIsNone(name.asname)
                        self.assertIn(name.name, top_names(home), file.name)

    def test_names(self):
        for place, node in self.each_node():
            if isinstance(node, ast.Name):
                self.assertRegex(node.id, r"^[A-Za-z][A-Za-z0-9_]*$", place)
                if hasattr(builtins, node.id):
                    self.assertIn(node.id, OWN_NAMES, place)
                    self.assertIsInstance(node.ctx, ast.Load, place)
            if isinstance(node, ast.arg):
                self.assertFalse(hasattr(builtins, node.arg), place)
                self.assertRegex(node.arg, r"^[A-Za-z][A-Za-z0-9_]*$", place)
            if isinstance(node, ast.Call) and isinstance(node.func, ast.Attribute):
                self.assertIn(node.func.attr, OWN_METHODS, place)

    def test_locals_are_not_called_like_what_is_drawn_in(self):
        for file in files():
            tree = ast.parse(file.read_text())
            top = top_names(tree) | drawn_names(tree)
            for node in ast.walk(tree):
                if isinstance(node, ast.FunctionDef):
                    inner = {other.arg for other in ast.walk(node) if isinstance(other, ast.arg)}
                    inner |= {other.id for other in ast.walk(node)
                              if isinstance(other, ast.Name) and isinstance(other.ctx, ast.Store)}
                    self.assertEqual(inner & top, set(), f"{file.name}:{node.lineno}")


def top_names(tree):
    found = [node.name for node in tree.body if isinstance(node, (ast.FunctionDef, ast.ClassDef))]
    found.extend(node.targets[0].id for node in tree.body if isinstance(node, ast.Assign))
    if len(found) != len(set(found)):
        raise AssertionError("a name is bound twice at a file's top")
    return set(found)


def drawn_names(tree):
    return {name.name for node in tree.body if isinstance(node, ast.ImportFrom) for name in node.names}


if __name__ == "__main__":
    unittest.main()
