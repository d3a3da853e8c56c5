"""The package keeps to the small part of Python that it is asked to keep to (as far as rows can tell)."""

import ast
import builtins
import re
import unittest
from pathlib import Path

PACKAGE = Path(__file__).resolve().parent.parent / "stationsignals"
FILES = sorted(path for path in PACKAGE.rglob("*") if path.is_file() and "__pycache__" not in path.parts)

OWN_NAMES = set(
    "len range enumerate zip min max sum abs sorted reversed int str bool list tuple dict set frozenset isinstance "
    "ord repr any all divmod Exception ValueError TypeError KeyError IndexError LookupError ZeroDivisionError "
    "ArithmeticError OverflowError RuntimeError NotImplementedError StopIteration".split())
METHODS = set(
    "append clear copy count endswith extend find get index insert isalnum isalpha isdigit islower isspace isupper "
    "items join keys ljust lower lstrip partition pop remove replace reverse rfind rjust rpartition rsplit rstrip "
    "setdefault split splitlines startswith strip update upper values zfill bit_length".split())
NEVER_WORDS = re.compile(
    r"\b(type|typing|typing_extensions|enum|Enum|IntEnum|StrEnum|Flag|IntFlag|Generic|Protocol|ABC|ABCMeta|namedtuple|"
    r"NamedTuple|TypedDict|TYPE_CHECKING|abstractmethod)\b|dataclass|overload|contextmanager")
NEVER_NAMES = set(
    "register mro elements open input version_info with_traceback add_note attrgetter breakpoint builtins compile "
    "copyright credits delattr dir eval exec exit gc getattr globals hasattr help id importlib license locals "
    "methodcaller os quit setattr super type vars sys __name__ chr".split())
NODES = (
    ast.Module, ast.ImportFrom, ast.alias, ast.FunctionDef, ast.ClassDef, ast.arguments, ast.arg, ast.Assign,
    ast.AugAssign, ast.If, ast.While, ast.For, ast.Return, ast.Break, ast.Continue, ast.Pass, ast.Raise, ast.Expr,
    ast.Constant, ast.Name, ast.Attribute, ast.Subscript, ast.Slice, ast.Call, ast.Tuple, ast.List, ast.Dict,
    ast.BinOp, ast.UnaryOp, ast.BoolOp, ast.Compare, ast.IfExp, ast.ListComp, ast.comprehension,
    ast.operator, ast.unaryop, ast.boolop, ast.cmpop, ast.expr_context, ast.keyword)


def trees():
    return [(path, ast.parse(path.read_text())) for path in FILES]


def own_methods():
    classes = [node for path, tree in trees() for node in tree.body if isinstance(node, ast.ClassDef)]
    return {part.name for node in classes for part in node.body}


class LanguageTest(unittest.TestCase):
    def test_files(self):
        self.assertIn(PACKAGE / "__init__.py", FILES)
        for path in FILES:
            self.assertRegex(path.name, r"^[a-z0-9_]+\.py$")
            self.assertFalse(path.stem in dir(builtins) or path.stem.startswith("test"), path)

    def test_signs_sizes_and_words(self):
        for path in FILES:
            text = path.read_text()
            rows = text.split("\n")
            self.assertRegex(text, r"\A[ -~\n]*\Z", path)
            self.assertLessEqual(len(rows), 400, path)
            self.assertLessEqual(max(len(row) for row in rows), 120, path)
            self.assertIsNone(NEVER_WORDS.search(text), path)

    def test_the_top_of_a_file(self):
        for path, tree in trees():
            bound = []
            for place, node in enumerate(tree.body):
                if isinstance(node, ast.Assign):
                    self.assertTrue(len(node.targets) == 1 and isinstance(node.targets[0], ast.Name), path)
                    bound.append(node.targets[0].id)
                    ast.literal_eval(node.value)
                elif isinstance(node, ast.ImportFrom):
                    bound += [name.name for name in node.names]
                elif isinstance(node, (ast.FunctionDef, ast.ClassDef)):
                    bound.append(node.name)
                else:
                    self.assertTrue(place == 0 and isinstance(node, ast.Expr), f"{path}:{node.lineno}")
            self.assertEqual(len(bound), len(set(bound)), path)

    def test_imports(self):
        defined = {}
        drawn = {}
        for path, tree in trees():
            module = "stationsignals." + path.stem
            defined[module] = {node.name for node in tree.body if isinstance(node, (ast.FunctionDef, ast.ClassDef))}
            defined[module] |= {node.targets[0].id for node in tree.body if isinstance(node, ast.Assign)}
            drawn[module] = [node for node in ast.walk(tree) if isinstance(node, ast.ImportFrom)]
        ready = set()
        while len(ready) < len(drawn):
            more = [name for name in drawn if name not in ready and all(node.module in ready for node in drawn[name])]
            self.assertTrue(more, "files draw from one another, or from outside")
            ready |= set(more)
        for nodes in drawn.values():
            for node in nodes:
                for name in node.names:
                    self.assertIn(name.name, defined[node.module])
                    self.assertIsNone(name.asname)

    def test_every_step_is_one_of_those_allowed(self):
        for path, tree in trees():
            for node in ast.walk(tree):
                place = f"{path}:{getattr(node, 'lineno', 0)}"
                self.assertIsInstance(node, NODES, place)
                self.assertNotIsInstance(node, (ast.Div, ast.MatMult), place)
                if isinstance(node, ast.Constant):
                    self.assertIn(type(node.value), (int, str, bool, type(None)), place)
                if isinstance(node, ast.Assign):
                    self.assertEqual(len(node.targets), 1, place)
                if isinstance(node, (ast.While, ast.For)):
                    self.assertEqual(node.orelse, [], place)
                if isinstance(node, (ast.FunctionDef, ast.ClassDef)):
                    self.assertEqual(node.decorator_list, [], place)
                if isinstance(node, ast.FunctionDef):
                    self.assertLessEqual(node.end_lineno - node.lineno + 1, 40, place)
                    given = node.args
                    self.assertFalse(given.vararg or given.kwarg or given.kwonlyargs or given.posonlyargs, place)

    def test_names(self):
        methods = own_methods()
        for path, tree in trees():
            bound = {name.name for node in tree.body if isinstance(node, ast.ImportFrom) for name in node.names}
            bound |= {node.name for node in tree.body if isinstance(node, ast.ClassDef)}
            for node in ast.walk(tree):
                place = f"{path}:{getattr(node, 'lineno', 0)}"
                if isinstance(node, ast.Name):
                    self.assertNotIn(node.id, NEVER_NAMES, place)
                    if hasattr(builtins, node.id):
                        self.assertTrue(node.id in OWN_NAMES and isinstance(node.ctx, ast.Load), place)
                    if isinstance(node.ctx, ast.Store):
                        self.assertNotIn(node.id, bound, place)
                        self.assertRegex(node.id, r"^[A-Za-z][A-Za-z0-9_]*$", place)
                if isinstance(node, ast.arg):
                    self.assertFalse(hasattr(builtins, node.arg) or node.arg in bound, place)
                if isinstance(node, ast.Call) and isinstance(node.func, ast.Attribute):
                    self.assertIn(node.func.attr, METHODS | methods, place)


if __name__ == "__main__":
    unittest.main()
