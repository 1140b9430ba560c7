"""The rules for the package's own files, as far as they can be seen from the syntax."""

import ast
import builtins
import pathlib
import re
import unittest

PACKAGE = pathlib.Path(__file__).resolve().parent.parent / "bitmatrix"

STATEMENTS = (
    ast.Assign, ast.AugAssign, ast.If, ast.While, ast.For, ast.Return, ast.Break, ast.Continue, ast.Pass,
    ast.Raise, ast.Try, ast.Expr, ast.FunctionDef, ast.ClassDef, ast.ImportFrom,
)
EXPRESSIONS = (
    ast.Constant, ast.Name, ast.List, ast.Tuple, ast.Dict, ast.BinOp, ast.UnaryOp, ast.BoolOp, ast.Compare,
    ast.IfExp, ast.Call, ast.Attribute, ast.Subscript, ast.Slice, ast.ListComp, ast.Lambda, ast.JoinedStr,
    ast.FormattedValue,
)
OUT_OF_USE = (ast.Div, ast.MatMult, ast.Pow)
OWN_NAMES = tuple(
    "len range enumerate zip min max sum abs sorted reversed int str bool list tuple dict set frozenset isinstance"
    " ord repr any all divmod Exception ValueError TypeError KeyError IndexError LookupError ZeroDivisionError"
    " ArithmeticError OverflowError RuntimeError NotImplementedError AttributeError StopIteration".split()
)
METHODS = tuple(
    "append clear copy count endswith extend find get index insert isalnum isalpha isdigit islower isspace isupper"
    " items join keys ljust lower lstrip partition pop remove replace reverse rfind rjust rpartition rsplit rstrip"
    " setdefault split splitlines startswith strip update upper values zfill bit_length __init__".split()
)
WORDS = re.compile(
    r"\b(type|typing|typing_extensions|enum|Enum|IntEnum|StrEnum|Flag|IntFlag|Generic|Protocol|ABC|ABCMeta"
    r"|namedtuple|NamedTuple|TypedDict|TYPE_CHECKING|abstractmethod)\b|dataclass|overload|contextmanager"
)
UNUSED = tuple("register mro elements open input version_info with_traceback add_note format format_map".split())
PLAIN_NAME = re.compile(r"[A-Za-z][A-Za-z0-9_]*")


def sources():
    return sorted(PACKAGE.rglob("*.py"))


def nodes():
    for path in sources():
        for node in ast.walk(ast.parse(path.read_text("utf-8"))):
            yield path.name, node


def bound_names(node):
    if isinstance(node, ast.Name) and isinstance(node.ctx, ast.Store):
        return [node.id]
    if isinstance(node, ast.arg):
        return [node.arg]
    if isinstance(node, (ast.FunctionDef, ast.ClassDef)):
        return [node.name]
    return []


class Files(unittest.TestCase):
    def test_nothing_but_plain_python_files(self):
        for path in PACKAGE.rglob("*"):
            if "__pycache__" in path.parts or path.is_dir():
                continue
            self.assertRegex(path.name, r"^([a-z][a-z0-9_]*|__init__)\.py$")
            self.assertNotIn(path.stem, dir(builtins))

    def test_size_and_signs(self):
        for path in sources():
            text = path.read_text("utf-8")
            self.assertRegex(text, r"\A[ -~\n]*\Z", path.name)
            self.assertIsNone(WORDS.search(text), path.name)
            self.assertLessEqual(len(text.splitlines()), 400)
            self.assertLessEqual(max(len(line) for line in text.splitlines()), 120)


class Syntax(unittest.TestCase):
    def test_statements_and_expressions(self):
        for name, node in nodes():
            where = (name, getattr(node, "lineno", 0), ast.dump(node)[:80])
            if isinstance(node, ast.stmt):
                self.assertIsInstance(node, STATEMENTS, where)
            if isinstance(node, ast.expr):
                self.assertIsInstance(node, EXPRESSIONS, where)
            self.assertNotIsInstance(node, OUT_OF_USE, where)
            if isinstance(node, ast.Constant):
                self.assertIn(type(node.value), (int, str, bool, type(None)), where)
            if isinstance(node, (ast.For, ast.While)):
                self.assertEqual(node.orelse, [], where)
            if isinstance(node, ast.Assign):
                self.assertEqual(len(node.targets), 1, where)
                self.assertIsInstance(node.targets[0], (ast.Name, ast.Attribute, ast.Subscript), where)
            if isinstance(node, ast.ListComp):
                self.assertEqual(len(node.generators), 1, where)
            if isinstance(node, ast.Try):
                self.assertEqual(node.finalbody, [], where)

    def test_functions(self):
        for name, node in nodes():
            if isinstance(node, ast.FunctionDef):
                self.assertLessEqual(node.end_lineno - node.lineno + 1, 40, (name, node.name))
                self.assertEqual(node.decorator_list, [])
                self.assertIsNone(node.args.vararg)
                self.assertIsNone(node.args.kwarg)
                self.assertEqual(node.args.kwonlyargs, [])

    def test_imports(self):
        for name, node in nodes():
            if isinstance(node, ast.ImportFrom):
                self.assertEqual(node.level, 0, name)
                self.assertRegex(node.module, r"^bitmatrix\.[a-z_]+$")
                self.assertNotIn("*", [part.name for part in node.names])

    def test_imports_come_from_the_file_that_defines_the_name(self):
        for name, node in nodes():
            if isinstance(node, ast.ImportFrom):
                path = PACKAGE / (node.module.split(".")[1] + ".py")
                defined = []
                for top in ast.parse(path.read_text("utf-8")).body:
                    for part in [top, *getattr(top, "targets", [])]:
                        defined.extend(bound_names(part))
                for part in node.names:
                    self.assertIn(part.name, defined, name)
                    self.assertIsNone(part.asname, name)

    def test_no_two_files_draw_from_one_another(self):
        drawn = {}
        for name, node in nodes():
            drawn.setdefault(name, set())
            if isinstance(node, ast.ImportFrom):
                drawn[name].add(node.module.split(".")[1] + ".py")
        while drawn:
            ready = [name for name in drawn if not drawn[name] & set(drawn)]
            self.assertTrue(ready, drawn)
            for name in ready:
                del drawn[name]

    def test_top_of_each_file(self):
        for path in sources():
            top = ast.parse(path.read_text("utf-8")).body
            bound = [name for node in top for part in [node, *getattr(node, "targets", [])] for name in bound_names(part)]
            self.assertEqual(len(bound), len(set(bound)), path.name)
            for node in top:
                self.assertIsInstance(node, (ast.Expr, ast.ImportFrom, ast.FunctionDef, ast.ClassDef, ast.Assign))
                if isinstance(node, (ast.Expr, ast.Assign)):
                    self.assertIsInstance(node.value, ast.Constant, path.name)


class Names(unittest.TestCase):
    def test_bound_names(self):
        for path in sources():
            tree = ast.parse(path.read_text("utf-8"))
            imports = [part.name for node in tree.body if isinstance(node, ast.ImportFrom) for part in node.names]
            for node in ast.walk(tree):
                for name in bound_names(node):
                    if name != "__init__":
                        self.assertIsNotNone(PLAIN_NAME.fullmatch(name), (path.name, name))
                    self.assertNotIn(name, dir(builtins), path.name)
                    self.assertNotIn(name, imports, path.name)
                    self.assertNotIn(name, UNUSED, path.name)

    def test_read_names(self):
        for name, node in nodes():
            if isinstance(node, ast.Name) and node.id in dir(builtins):
                self.assertIn(node.id, OWN_NAMES, (name, node.lineno))

    def test_methods(self):
        for name, node in nodes():
            if isinstance(node, ast.Call) and isinstance(node.func, ast.Attribute):
                self.assertIn(node.func.attr, METHODS, (name, node.lineno))
            if isinstance(node, ast.Attribute):
                self.assertNotIn(node.attr, UNUSED, (name, node.lineno))


if __name__ == "__main__":
    unittest.main()
