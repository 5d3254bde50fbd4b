"""The rules of form that can be counted: the package's own files are read as texts."""

import ast
import builtins
import pathlib
import re
import unittest

PACKAGE = pathlib.Path(__file__).resolve().parent.parent / "bitdevice"
FILES = sorted(path for path in PACKAGE.rglob("*.py"))
OWN_NAMES = (
    "len range enumerate zip min max sum abs sorted reversed int str bool list tuple dict set frozenset isinstance ord "
    "repr any all divmod Exception ValueError TypeError KeyError IndexError LookupError ZeroDivisionError "
    "ArithmeticError OverflowError RuntimeError NotImplementedError AttributeError StopIteration"
).split()
OWN_METHODS = (
    "append clear copy count endswith extend find get index insert isalnum isalpha isdigit islower isspace isupper "
    "items join keys ljust lower lstrip partition pop remove replace reverse rfind rjust rpartition rsplit rstrip "
    "setdefault split splitlines startswith strip update upper values zfill bit_length"
).split()
LEFT_OUT = re.compile(
    r"\b(type|typing|typing_extensions|enum|Enum|IntEnum|StrEnum|Flag|IntFlag|Generic|Protocol|ABC|ABCMeta|namedtuple"
    r"|NamedTuple|TypedDict|TYPE_CHECKING|abstractmethod)\b|dataclass|overload|contextmanager"
)
NODES = (
    ast.Module, ast.Expr, ast.Constant, ast.ImportFrom, ast.alias, ast.FunctionDef, ast.ClassDef, ast.arguments,
    ast.arg, ast.Assign, ast.AugAssign, ast.If, ast.While, ast.For, ast.Return, ast.Break, ast.Continue, ast.Call,
    ast.Name, ast.Attribute, ast.Subscript, ast.Slice, ast.List, ast.Tuple, ast.Dict, ast.BinOp, ast.UnaryOp,
    ast.BoolOp, ast.Compare, ast.IfExp, ast.ListComp, ast.comprehension, ast.expr_context, ast.operator, ast.unaryop,
    ast.boolop, ast.cmpop,
)
NO_NODES = (ast.Div, ast.MatMult, ast.Is, ast.IsNot, ast.Pow)


def nodes_of(path):
    return list(ast.walk(ast.parse(path.read_text())))


class Language(unittest.TestCase):
    def test_only_plain_files(self):
        names = [path.name for path in PACKAGE.iterdir() if path.name != "__pycache__"]
        self.assertIn("__init__.py", names)
        for name in names:
            self.assertRegex(name, r"^(__init__|[a-z][a-z0-9_]*)\.py$")

    def test_sizes_and_signs(self):
        for path in FILES:
            rows = path.read_text().split("\n")
            self.assertLessEqual(len(rows), 399, path)
            for row in rows:
                self.assertRegex(row, r"^[ -~]{0,120}$", path)
                self.assertIsNone(LEFT_OUT.search(row), (path, row))
            for node in nodes_of(path):
                if isinstance(node, ast.FunctionDef):
                    self.assertLessEqual(node.end_lineno - node.lineno + 1, 40, (path, node.name))

    def test_only_the_kinds_of_statement_and_expression_in_use(self):
        for path in FILES:
            for node in nodes_of(path):
                self.assertIsInstance(node, NODES, path)
                self.assertNotIsInstance(node, NO_NODES, path)
                if isinstance(node, (ast.For, ast.While)):
                    self.assertEqual(node.orelse, [], path)
                if isinstance(node, ast.Assign):
                    self.assertEqual(len(node.targets), 1, path)

    def test_only_imports_of_its_own(self):
        for path in FILES:
            for node in nodes_of(path):
                if isinstance(node, ast.ImportFrom):
                    self.assertEqual(node.level, 0, path)
                    self.assertRegex(node.module, r"^bitdevice\.[a-z]+$", path)
                    defined = (PACKAGE / (node.module.split(".")[1] + ".py")).read_text()
                    for alias in node.names:
                        self.assertIsNone(alias.asname, path)
                        self.assertRegex(defined, rf"(?m)^(def |class )?{alias.name}( =|\(|:)")

    def test_no_two_files_draw_from_one_another(self):
        drawn = {
            path.stem: {node.module.split(".")[1] for node in nodes_of(path) if isinstance(node, ast.ImportFrom)}
            for path in FILES
        }
        while drawn:
            free = [name for name, others in drawn.items() if not others & set(drawn)]
            self.assertTrue(free, drawn)
            for name in free:
                drawn.pop(name)

    def test_no_name_is_an_import_of_its_file_too(self):
        for path in FILES:
            nodes = nodes_of(path)
            drawn = {alias.name for node in nodes if isinstance(node, ast.ImportFrom) for alias in node.names}
            given = {node.id for node in nodes if isinstance(node, ast.Name) and isinstance(node.ctx, ast.Store)}
            given |= {node.arg for node in nodes if isinstance(node, ast.arg)}
            self.assertEqual(drawn & given, set(), path)

    def test_names(self):
        for path in FILES:
            for node in nodes_of(path):
                if isinstance(node, ast.Name):
                    self.assertTrue(node.id in OWN_NAMES or not hasattr(builtins, node.id), (path, node.id))
                    if not isinstance(node.ctx, ast.Load):
                        self.check_given_name(path, node.id)
                if isinstance(node, ast.arg):
                    self.check_given_name(path, node.arg)

    def check_given_name(self, path, name):
        self.assertRegex(name, r"^[A-Za-z][A-Za-z0-9_]*$", path)
        self.assertFalse(hasattr(builtins, name), (path, name))

    def test_methods(self):
        own = {
            node.name if isinstance(node, ast.FunctionDef) else node.attr
            for path in FILES for node in nodes_of(path)
            if isinstance(node, ast.FunctionDef) or isinstance(node, ast.Attribute) and isinstance(node.ctx, ast.Store)
        }
        for path in FILES:
            for node in nodes_of(path):
                if isinstance(node, ast.Attribute):
                    self.assertIn(node.attr, own | set(OWN_METHODS), path)


if __name__ == "__main__":
    unittest.main()
