"""The package's own files keep to the small part of Python; rule numbers as in LANGUAGE.md.

It sees the rules that a walk over the syntax can see; the others are for the reader.
"""

import ast
import builtins
import pathlib
import re
import unittest

PACKAGE = pathlib.Path(__file__).resolve().parent.parent / "patchtable"

OWN_NAMES = set(
    "len range enumerate zip min max sum abs sorted reversed int str bool list tuple dict set frozenset "
    "isinstance ord repr any all divmod Exception ValueError TypeError KeyError IndexError LookupError "
    "ZeroDivisionError ArithmeticError OverflowError RuntimeError NotImplementedError AttributeError "
    "StopIteration".split())
METHODS = set(
    "append clear copy count endswith extend find get index insert isalnum isalpha isdigit islower isspace "
    "isupper items join keys ljust lower lstrip partition pop remove replace reverse rfind rjust rpartition "
    "rsplit rstrip setdefault split splitlines startswith strip update upper values zfill bit_length".split())
WORDS = re.compile(
    r"\b(type|typing|typing_extensions|enum|Enum|IntEnum|StrEnum|Flag|IntFlag|Generic|Protocol|ABC|ABCMeta|"
    r"namedtuple|NamedTuple|TypedDict|TYPE_CHECKING|abstractmethod)\b|dataclass|overload|contextmanager")
LEFT_OUT = (
    ast.With, ast.Match, ast.Delete, ast.Global, ast.Nonlocal, ast.Assert, ast.Yield, ast.YieldFrom, ast.Await,
    ast.AsyncFunctionDef, ast.AsyncFor, ast.AsyncWith, ast.GeneratorExp, ast.SetComp, ast.DictComp,
    ast.NamedExpr, ast.Starred, ast.Div, ast.AnnAssign, ast.MatMult)
WALKED = ("zip", "enumerate", "reversed", "range")


def sources():
    return [(path.name, path.read_text(encoding="utf-8")) for path in sorted(PACKAGE.glob("*.py"))]


def nodes(*kinds):
    return [(name, node) for name, source in sources() for node in ast.walk(ast.parse(source))
            if isinstance(node, kinds)]


class Language(unittest.TestCase):
    def test_l1_files(self):
        names = sorted(path.name for path in PACKAGE.iterdir() if path.name != "__pycache__")
        self.assertIn("__init__.py", names)
        self.assertIn("hall.py", names)
        for name in names:
            self.assertRegex(name, r"\A[a-z0-9_]+\.py\Z")

    def test_the_document_imports_nothing(self):
        self.assertEqual(nodes(ast.Import, ast.ImportFrom), [])

    def test_l3_the_top_of_a_module(self):
        for name, source in sources():
            body = ast.parse(source).body
            self.assertIsNotNone(ast.get_docstring(ast.parse(source)), name)
            bound = []
            for node in body[1:]:
                self.assertIsInstance(node, (ast.FunctionDef, ast.ClassDef, ast.Assign), (name, node.lineno))
                if isinstance(node, ast.Assign):
                    ast.literal_eval(node.value)
                    bound.append(node.targets[0].id)
                else:
                    bound.append(node.name)
            self.assertEqual(len(bound), len(set(bound)), name)

    def test_l4_functions(self):
        for name, node in nodes(ast.FunctionDef, ast.Lambda):
            arguments = node.args
            self.assertFalse(arguments.vararg or arguments.kwarg or arguments.kwonlyargs or arguments.posonlyargs)
            if isinstance(node, ast.FunctionDef):
                self.assertEqual(node.decorator_list, [], (name, node.name))

    def test_l6_l7_what_is_left_out(self):
        self.assertEqual([(name, node.lineno) for name, node in nodes(*LEFT_OUT) if hasattr(node, "lineno")], [])
        self.assertEqual(nodes(ast.Div, ast.MatMult), [])
        for name, node in nodes(ast.For, ast.While):
            self.assertEqual(node.orelse, [], (name, node.lineno))
        for name, node in nodes(ast.Try):
            self.assertEqual(node.finalbody, [], (name, node.lineno))
        for name, node in nodes(ast.Assign):
            self.assertEqual(len(node.targets), 1, (name, node.lineno))
        for name, node in nodes(ast.ListComp):
            self.assertEqual(len(node.generators), 1, (name, node.lineno))
            self.assertLessEqual(len(node.generators[0].ifs), 1, (name, node.lineno))
        for name, node in nodes(ast.Constant):
            self.assertNotIsInstance(node.value, (float, bytes, complex), (name, node.lineno))

    def test_l8_l15_names(self):
        for name, node in nodes(ast.Name):
            if isinstance(node.ctx, ast.Load):
                self.assertTrue(node.id in OWN_NAMES or not hasattr(builtins, node.id), (name, node.lineno, node.id))
            else:
                self.assertFalse(hasattr(builtins, node.id), (name, node.lineno, node.id))
        for name, node in nodes(ast.arg):
            self.assertFalse(hasattr(builtins, node.arg), (name, node.lineno, node.arg))
        for name, node in nodes(ast.FunctionDef, ast.ClassDef):
            self.assertFalse(hasattr(builtins, node.name), (name, node.lineno, node.name))

    def test_l10_l14_size_and_signs(self):
        for name, source in sources():
            self.assertLessEqual(len(source.splitlines()), 400, name)
            for number, line in enumerate(source.split("\n"), start=1):
                self.assertLessEqual(len(line), 120, (name, number))
                self.assertRegex(line, r"\A[ -~]*\Z", (name, number))
        for name, node in nodes(ast.FunctionDef):
            self.assertLessEqual(node.end_lineno - node.lineno + 1, 40, (name, node.name))

    def test_l12_plain_names(self):
        for name, node in nodes(ast.Name, ast.arg, ast.Attribute):
            word = getattr(node, "id", None) or getattr(node, "arg", None) or getattr(node, "attr", None)
            self.assertFalse(word.startswith("_"), (name, node.lineno, word))
        for name, node in nodes(ast.FunctionDef, ast.ClassDef):
            self.assertTrue(not node.name.startswith("_") or node.name == "__init__", (name, node.lineno))

    def test_l15_what_stands_at_the_top_is_not_changed(self):
        for name, source in sources():
            for node in ast.parse(source).body:
                if isinstance(node, ast.Assign):
                    self.assertIsInstance(ast.literal_eval(node.value), (int, str, tuple), (name, node.lineno))

    def test_l17_words(self):
        for name, source in sources():
            self.assertIsNone(WORDS.search(source), name)

    def test_l20_is(self):
        for name, node in nodes(ast.Compare):
            for operator, value in zip(node.ops, node.comparators):
                if isinstance(operator, (ast.Is, ast.IsNot)):
                    self.assertIsInstance(value, ast.Constant, (name, node.lineno))

    def test_l23_walked_at_once(self):
        for name, source in sources():
            tree = ast.parse(source)
            walked = [id(node.iter) for node in ast.walk(tree) if isinstance(node, (ast.For, ast.comprehension))]
            walked += [id(node.args[0]) for node in ast.walk(tree) if isinstance(node, ast.Call) and node.args]
            for node in ast.walk(tree):
                if isinstance(node, ast.Call) and isinstance(node.func, ast.Name) and node.func.id in WALKED:
                    self.assertIn(id(node), walked, (name, node.lineno))

    def test_l25_methods(self):
        for name, node in nodes(ast.Call):
            if isinstance(node.func, ast.Attribute):
                self.assertIn(node.func.attr, METHODS, (name, node.lineno))


if __name__ == "__main__":
    unittest.main()
