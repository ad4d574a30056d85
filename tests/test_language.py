"""Holds the package's files against the rules of the language that can be read off their form."""

import ast
import builtins
import pathlib
import re
import unittest

PACKAGE = pathlib.Path(__file__).resolve().parent.parent / "playseason"

NODES = """
    Module FunctionDef arguments arg ClassDef Return Assign AugAssign For While If Break Continue Pass Expr Raise
    BoolOp And Or UnaryOp Not USub BinOp Add Sub Mult FloorDiv Mod Compare Eq NotEq Lt LtE Gt GtE In NotIn Is IsNot
    IfExp Call keyword Attribute Name Load Store Constant List Tuple Dict Subscript Slice ListComp comprehension
""".split()
OWN_NAMES = """
    len range enumerate zip min max sum abs sorted reversed int str bool list tuple dict isinstance ord repr any all
    divmod
""".split()
METHODS = """
    append clear copy count endswith extend find get index insert isalnum isalpha isdigit islower isspace isupper
    items join keys ljust lower lstrip partition pop remove replace reverse rfind rjust rpartition rsplit rstrip
    setdefault split splitlines startswith strip update upper values zfill bit_length
""".split()
WORDS = """
    type typing typing_extensions enum Enum IntEnum StrEnum Flag IntFlag Generic Protocol ABC ABCMeta namedtuple
    NamedTuple TypedDict TYPE_CHECKING abstractmethod
""".split()


def sources():
    return [(path, path.read_text(encoding="utf-8")) for path in sorted(PACKAGE.glob("*.py"))]


def nodes():
    for path, source in sources():
        for node in ast.walk(ast.parse(source)):
            yield f"{path.name}:{getattr(node, 'lineno', 0)}", node


class Language(unittest.TestCase):
    def test_nothing_but_python_files_lies_in_the_package(self):
        names = sorted(path.name for path in PACKAGE.iterdir() if path.name != "__pycache__")
        self.assertEqual(names, ["__init__.py", "company.py"])

    def test_size_and_signs(self):
        for path, source in sources():
            self.assertTrue(re.fullmatch(r"[ -~\n]*", source), path)
            rows = source.split("\n")
            self.assertLessEqual(len(rows), 400, path)
            self.assertLessEqual(max(len(row) for row in rows), 120, path)

    def test_words_that_stand_nowhere(self):
        for path, source in sources():
            self.assertEqual(set(re.findall(r"\w+", source)) & set(WORDS), set(), path)
            self.assertFalse(re.search("dataclass|overload|contextmanager", source), path)

    def test_only_the_forms_that_are_allowed(self):
        for place, node in nodes():
            self.assertIn(type(node).__name__, NODES, place)
            if isinstance(node, ast.Assign):
                self.assertEqual(len(node.targets), 1, place)
                self.assertNotIsInstance(node.targets[0], (ast.Tuple, ast.List), place)
            if isinstance(node, (ast.For, ast.While)):
                self.assertEqual(node.orelse, [], place)
            if isinstance(node, ast.ListComp):
                self.assertEqual(len(node.generators), 1, place)
                self.assertLessEqual(len(node.generators[0].ifs), 1, place)
            if isinstance(node, ast.Constant):
                self.assertIn(type(node.value), (int, str, bool, type(None)), place)

    def test_functions_are_small_and_plain(self):
        for place, node in nodes():
            if isinstance(node, ast.FunctionDef):
                self.assertLessEqual(node.end_lineno - node.lineno + 1, 40, place)
                self.assertEqual(node.decorator_list, [], place)
                self.assertIsNone(node.args.vararg or node.args.kwarg, place)
                self.assertEqual(node.args.kwonlyargs + node.args.posonlyargs, [], place)

    def test_names(self):
        for place, node in nodes():
            if isinstance(node, ast.Name) and isinstance(node.ctx, ast.Load) and hasattr(builtins, node.id):
                self.assertIn(node.id, OWN_NAMES, place)
            if isinstance(node, ast.Name) and isinstance(node.ctx, ast.Store):
                self.assertFalse(hasattr(builtins, node.id) or node.id.startswith("_"), place)
            if isinstance(node, ast.arg):
                self.assertFalse(hasattr(builtins, node.arg) or node.arg.startswith("_"), place)

    def test_methods_and_values(self):
        kinds = (str, int, list, dict, set, bytes, tuple)
        taken = {name for kind in kinds for name in dir(kind)}
        for place, node in nodes():
            if isinstance(node, ast.Attribute) and isinstance(node.ctx, ast.Store):
                self.assertNotIn(node.attr, taken, place)
            if isinstance(node, ast.Call) and isinstance(node.func, ast.Attribute):
                self.assertIn(node.func.attr, METHODS, place)

    def test_each_name_of_a_file_is_bound_once(self):
        for path, source in sources():
            names = []
            for node in ast.parse(source).body:
                if isinstance(node, (ast.FunctionDef, ast.ClassDef)):
                    names.append(node.name)
                if isinstance(node, ast.Assign):
                    names.append(node.targets[0].id)
            self.assertEqual(len(names), len(set(names)), path)

    def test_functions_do_not_call_themselves(self):
        for path, source in sources():
            for node in ast.parse(source).body:
                if isinstance(node, ast.FunctionDef):
                    called = [part.id for part in ast.walk(node) if isinstance(part, ast.Name)]
                    self.assertNotIn(node.name, called, path)
