"""What a test can see of the rules L1 to L28 for the package's own files."""

import ast
import builtins
import pathlib
import re
import unittest

FOLDER = pathlib.Path(__file__).resolve().parent.parent / "bagsaboard"

STATEMENTS = (
    ast.Module, ast.FunctionDef, ast.ClassDef, ast.ImportFrom, ast.alias, ast.arguments, ast.arg, ast.Assign,
    ast.AugAssign, ast.If, ast.While, ast.For, ast.Return, ast.Break, ast.Continue, ast.Pass, ast.Raise, ast.Try,
    ast.ExceptHandler, ast.Expr,
)
VALUES = (
    ast.Constant, ast.Name, ast.Attribute, ast.Subscript, ast.Slice, ast.Call, ast.keyword, ast.List, ast.Tuple,
    ast.Dict, ast.BinOp, ast.UnaryOp, ast.BoolOp, ast.Compare, ast.IfExp, ast.ListComp, ast.comprehension, ast.Lambda,
    ast.JoinedStr, ast.FormattedValue, ast.expr_context, ast.boolop, ast.unaryop, ast.cmpop, ast.operator,
)
OWN_NAMES_OF_PYTHON = (
    "len range enumerate zip min max sum abs sorted reversed int str bool list tuple dict set frozenset isinstance "
    "ord repr any all divmod Exception ValueError TypeError KeyError IndexError LookupError ZeroDivisionError "
    "ArithmeticError OverflowError RuntimeError NotImplementedError AttributeError StopIteration"
).split()
METHODS = (
    "append clear copy count endswith extend find get index insert isalnum isalpha isdigit islower isspace isupper "
    "items join keys ljust lower lstrip partition pop remove replace reverse rfind rjust rpartition rsplit rstrip "
    "setdefault split splitlines startswith strip update upper values zfill bit_length"
).split()
WORDS_OUT = (
    r"\b(type|typing|typing_extensions|enum|Enum|IntEnum|StrEnum|Flag|IntFlag|Generic|Protocol|ABC|ABCMeta|namedtuple"
    r"|NamedTuple|TypedDict|TYPE_CHECKING|abstractmethod)\b|dataclass|overload|contextmanager"
)
VALUES_NOT_USED = "register mro elements open input version_info with_traceback add_note".split()


def package_files():
    return sorted(path for path in FOLDER.rglob("*") if "__pycache__" not in path.parts)


def trees():
    return [(path, ast.parse(path.read_text(encoding="utf-8"))) for path in package_files()]


def nodes_of(kinds):
    return [(path, node) for path, tree in trees() for node in ast.walk(tree) if isinstance(node, kinds)]


class FilesTest(unittest.TestCase):
    def test_plain_lower_case_files_alone(self):
        self.assertIn("airport.py", [path.name for path in package_files()])
        for path in package_files():
            self.assertTrue(path.is_file())
            self.assertRegex(path.name, r"^(__init__|[a-z][a-z0-9_]*)\.py$")
            self.assertNotIn(path.stem, dir(builtins))

    def test_signs_and_sizes(self):
        for path in package_files():
            rows = path.read_text(encoding="utf-8").split("\n")
            self.assertLessEqual(len(rows), 401)
            for row in rows:
                self.assertRegex(row, r"^[ -~]{0,120}$")

    def test_words_that_stand_nowhere(self):
        for path in package_files():
            self.assertIsNone(re.search(WORDS_OUT, path.read_text(encoding="utf-8")))

    def test_functions_of_forty_lines(self):
        for path, node in nodes_of(ast.FunctionDef):
            self.assertLessEqual(node.end_lineno - node.lineno + 1, 40, f"{path.name}: {node.name}")


class FormTest(unittest.TestCase):
    def test_statements_and_values(self):
        for path, node in nodes_of(ast.AST):
            self.assertIsInstance(node, STATEMENTS + VALUES, f"{path.name}: {ast.dump(node)}")
            self.assertNotIsInstance(node, (ast.Div, ast.MatMult))

    def test_written_values(self):
        for path, node in nodes_of(ast.Constant):
            self.assertIn(type(node.value), (int, str, bool, type(None)), path.name)

    def test_plain_functions_and_classes(self):
        for path, node in nodes_of((ast.FunctionDef, ast.ClassDef)):
            self.assertEqual(node.decorator_list, [], path.name)
        for path, node in nodes_of(ast.arguments):
            self.assertEqual((node.vararg, node.kwarg, node.kwonlyargs, node.posonlyargs), (None, None, [], []))

    def test_one_target_and_no_else_behind_a_loop(self):
        for path, node in nodes_of(ast.Assign):
            self.assertEqual(len(node.targets), 1, path.name)
        for path, node in nodes_of((ast.For, ast.While)):
            self.assertEqual(node.orelse, [], path.name)

    def test_imports_nothing(self):
        self.assertEqual(nodes_of((ast.Import, ast.ImportFrom)), [])

    def test_is_beside_none_true_false_alone(self):
        for path, node in nodes_of(ast.Compare):
            for sign, right in zip(node.ops, node.comparators):
                if isinstance(sign, (ast.Is, ast.IsNot)):
                    self.assertIsInstance(right, ast.Constant, path.name)
                    self.assertIn(right.value, (None, True, False), path.name)


class NamesTest(unittest.TestCase):
    def bound_names(self):
        bound = [(path, node.id) for path, node in nodes_of(ast.Name) if isinstance(node.ctx, ast.Store)]
        bound += [(path, node.arg) for path, node in nodes_of(ast.arg)]
        bound += [(path, node.name) for path, node in nodes_of((ast.FunctionDef, ast.ClassDef))]
        return [(path, name) for path, name in bound if name != "__init__"]

    def test_bound_names_are_plain_and_not_pythons_own(self):
        for path, name in self.bound_names():
            self.assertRegex(name, r"^[A-Za-z][A-Za-z0-9_]*$", path.name)
            self.assertNotIn(name, dir(builtins), path.name)
            self.assertNotIn(name, VALUES_NOT_USED, path.name)

    def test_names_of_pythons_own(self):
        for path, node in nodes_of(ast.Name):
            if node.id in dir(builtins):
                self.assertIn(node.id, OWN_NAMES_OF_PYTHON, path.name)

    def test_methods_and_values(self):
        stored = [node.attr for path, node in nodes_of(ast.Attribute) if isinstance(node.ctx, ast.Store)]
        methods = [
            part.name for path, node in nodes_of(ast.ClassDef) for part in node.body
            if isinstance(part, ast.FunctionDef)
        ]
        self.assertEqual(set(stored) & set(methods), set())
        for path, node in nodes_of(ast.Attribute):
            self.assertIn(node.attr, stored + methods + METHODS, path.name)
        for name in stored:
            for kind in (str, int, list, dict, set, bytes, tuple):
                self.assertNotIn(name, dir(kind))
            self.assertNotIn(name, VALUES_NOT_USED)


if __name__ == "__main__":
    unittest.main()
