"""The form of the package's own files: the rules of LANGUAGE.md that a walk over the code can see."""

import ast
import builtins
import re
import unittest
from pathlib import Path

PACKAGE = Path(__file__).resolve().parent.parent / "edgetold"

STATEMENTS = (
    ast.Assign, ast.AugAssign, ast.If, ast.While, ast.For, ast.Return, ast.Break, ast.Continue, ast.Pass, ast.Raise,
    ast.Try, ast.Expr, ast.FunctionDef, ast.ClassDef, ast.ImportFrom,
)
EXPRESSIONS = (
    ast.BoolOp, ast.BinOp, ast.UnaryOp, ast.Lambda, ast.IfExp, ast.Dict, ast.Set, ast.ListComp, ast.Compare, ast.Call,
    ast.FormattedValue, ast.JoinedStr, ast.Constant, ast.Attribute, ast.Subscript, ast.Name, ast.List, ast.Tuple,
    ast.Slice,
)
OWN_OF_PYTHON = set(
    "len range enumerate zip min max sum abs sorted reversed int str bool list tuple dict set frozenset isinstance ord "
    "repr any all divmod Exception ValueError TypeError KeyError IndexError LookupError ZeroDivisionError "
    "ArithmeticError OverflowError RuntimeError NotImplementedError AttributeError StopIteration".split()
)
METHODS = set(
    "append clear copy count endswith extend find get index insert isalnum isalpha isdigit islower isspace isupper "
    "items join keys ljust lower lstrip partition pop remove replace reverse rfind rjust rpartition rsplit rstrip "
    "setdefault split splitlines startswith strip update upper values zfill bit_length".split()
)
WORDS_LEFT_OUT = re.compile(
    r"\b(type|typing|typing_extensions|enum|Enum|IntEnum|StrEnum|Flag|IntFlag|Generic|Protocol|ABC|ABCMeta|namedtuple"
    r"|NamedTuple|TypedDict|TYPE_CHECKING|abstractmethod)\b|dataclass|overload|contextmanager"
)
NAMES_LEFT_OUT = set(
    "register mro elements open input version_info with_traceback add_note format format_map".split()
)


def sources():
    return [(path, path.read_text(encoding="utf-8")) for path in sorted(PACKAGE.glob("*.py"))]


def nodes(*kinds):
    found = []
    for path, text in sources():
        found.extend((path.name, node) for node in ast.walk(ast.parse(text)) if isinstance(node, kinds))
    return found


def own_methods():
    return {
        part.name for place, node in nodes(ast.ClassDef) for part in node.body if isinstance(part, ast.FunctionDef)
    }


class Form(unittest.TestCase):
    def test_files(self):
        names = [path.name for path in PACKAGE.iterdir() if path.name != "__pycache__"]
        self.assertIn("__init__.py", names)
        for name in names:
            self.assertRegex(name, r"^(__init__|[a-z][a-z0-9_]*)\.py$")

    def test_signs_and_sizes(self):
        for path, text in sources():
            self.assertRegex(text, r"\A[ -~\n]*\Z", path.name)
            rows = text.split("\n")
            self.assertLessEqual(len(rows), 400, path.name)
            self.assertLessEqual(max(len(written) for written in rows), 120, path.name)
            self.assertIsNone(WORDS_LEFT_OUT.search(text), path.name)
        for place, node in nodes(ast.FunctionDef):
            self.assertLessEqual(node.end_lineno - node.lineno + 1, 40, (place, node.name))

    def test_statements_and_expressions(self):
        for place, node in nodes(ast.stmt):
            self.assertIsInstance(node, STATEMENTS, (place, node.lineno))
        for place, node in nodes(ast.expr):
            self.assertIsInstance(node, EXPRESSIONS, (place, node.lineno))
        for place, node in nodes(ast.Constant):
            self.assertIn(type(node.value), (int, str, bool, type(None)), (place, node.lineno))
        for place, node in nodes(ast.BinOp, ast.AugAssign):
            self.assertNotIsInstance(node.op, (ast.Div, ast.MatMult, ast.Pow), (place, node.lineno))
        for place, node in nodes(ast.Assign):
            self.assertEqual(len(node.targets), 1, (place, node.lineno))
        for place, node in nodes(ast.For, ast.While):
            self.assertEqual(node.orelse, [], (place, node.lineno))
        for place, node in nodes(ast.ListComp):
            self.assertEqual(len(node.generators), 1, (place, node.lineno))
            self.assertLessEqual(len(node.generators[0].ifs), 1, (place, node.lineno))
        for place, node in nodes(ast.Compare):
            self.assertFalse(any(isinstance(sign, (ast.Is, ast.IsNot)) for sign in node.ops), (place, node.lineno))

    def test_texts_stand_alone_at_the_top_only(self):
        for path, text in sources():
            tree = ast.parse(text)
            self.assertIsNotNone(ast.get_docstring(tree), path.name)
            lone = [node for node in ast.walk(tree) if isinstance(node, ast.Expr)]
            self.assertTrue(all(isinstance(node.value, ast.Call) for node in lone if node != tree.body[0]), path.name)

    def test_tops(self):
        for path, text in sources():
            bound = []
            for node in ast.parse(text).body[1:]:
                self.assertIsInstance(node, (ast.ImportFrom, ast.FunctionDef, ast.ClassDef, ast.Assign), path.name)
                if isinstance(node, ast.ImportFrom):
                    bound.extend(part.name for part in node.names)
                elif isinstance(node, ast.Assign):
                    ast.literal_eval(node.value)
                    bound.append(node.targets[0].id)
                else:
                    bound.append(node.name)
            self.assertEqual(len(bound), len(set(bound)), path.name)

    def test_imports(self):
        for place, node in nodes(ast.ImportFrom):
            self.assertEqual((node.module.split(".")[0], node.level), ("edgetold", 0), place)
            self.assertTrue(all(part.name != "*" and part.asname is None for part in node.names), place)

    def test_no_local_is_called_like_an_import_or_a_class(self):
        for path, text in sources():
            tree = ast.parse(text)
            taken = {part.name for node in tree.body if isinstance(node, ast.ImportFrom) for part in node.names}
            taken |= {node.name for node in tree.body if isinstance(node, ast.ClassDef)}
            for node in ast.walk(tree):
                if isinstance(node, ast.arg):
                    self.assertNotIn(node.arg, taken, path.name)
                if isinstance(node, ast.Name) and isinstance(node.ctx, ast.Store):
                    self.assertNotIn(node.id, taken, path.name)

    def test_no_two_files_draw_from_one_another(self):
        drawn = {path.stem: set() for path, text in sources()}
        for place, node in nodes(ast.ImportFrom):
            drawn[place[:-len(".py")]].add(node.module.split(".")[1])
        while drawn:
            free = [name for name in drawn if not drawn[name] & set(drawn)]
            self.assertNotEqual(free, [], drawn)
            for name in free:
                del drawn[name]

    def test_functions_and_classes(self):
        for place, node in nodes(ast.FunctionDef):
            given = node.args
            self.assertEqual(
                (given.vararg, given.kwarg, given.kwonlyargs, given.posonlyargs, node.decorator_list, node.returns),
                (None, None, [], [], [], None), (place, node.name),
            )
        for place, node in nodes(ast.ClassDef):
            self.assertEqual((node.decorator_list, node.keywords), ([], []), (place, node.name))
            self.assertLessEqual(len(node.bases), 1, (place, node.name))
            for part in node.body:
                self.assertIsInstance(part, (ast.FunctionDef, ast.Pass), (place, node.name))

    def test_names(self):
        python_names = set(dir(builtins))
        for place, node in nodes(ast.Name):
            self.assertRegex(node.id, r"^[A-Za-z][A-Za-z0-9_]*$", place)
            self.assertNotIn(node.id, NAMES_LEFT_OUT, place)
            if node.id in python_names:
                self.assertIn(node.id, OWN_OF_PYTHON, (place, node.lineno))
                self.assertIsInstance(node.ctx, ast.Load, (place, node.lineno))
        for place, node in nodes(ast.arg):
            self.assertRegex(node.arg, r"^[A-Za-z][A-Za-z0-9_]*$", place)
            self.assertNotIn(node.arg, python_names, place)
            self.assertIsNone(node.annotation, place)

    def test_methods(self):
        for place, node in nodes(ast.Attribute):
            self.assertNotIn(node.attr, NAMES_LEFT_OUT, (place, node.lineno))
        for place, node in nodes(ast.Call):
            if isinstance(node.func, ast.Attribute):
                self.assertIn(node.func.attr, METHODS | own_methods(), (place, node.lineno))


if __name__ == "__main__":
    unittest.main()
