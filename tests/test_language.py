"""Holds the package's files against what of ../shared/LANGUAGE.md can be seen file by file."""

import ast
import pathlib
import re
import unittest

PACKAGE = pathlib.Path(__file__).resolve().parent.parent / "proofmarks"

ALLOWED_NODES = (
    ast.Module, ast.Expr, ast.Constant, ast.ImportFrom, ast.alias, ast.Assign, ast.AugAssign, ast.FunctionDef,
    ast.ClassDef, ast.arguments, ast.arg, ast.Return, ast.If, ast.While, ast.For, ast.Break, ast.Continue, ast.Pass,
    ast.Raise, ast.Try, ast.ExceptHandler, ast.Name, ast.Attribute, ast.Subscript, ast.Slice, ast.Call, ast.keyword,
    ast.BinOp, ast.UnaryOp, ast.BoolOp, ast.Compare, ast.IfExp, ast.List, ast.Tuple, ast.Dict, ast.ListComp,
    ast.comprehension, ast.Lambda, ast.expr_context, ast.operator, ast.unaryop, ast.boolop, ast.cmpop,
)
BUILT_IN = set(
    "len range enumerate zip min max sum abs sorted reversed int str bool list tuple dict isinstance ord repr any all "
    "divmod Exception ValueError TypeError KeyError IndexError LookupError ZeroDivisionError ArithmeticError "
    "OverflowError RuntimeError NotImplementedError AttributeError StopIteration".split()
)
METHODS = set(
    "append clear copy count endswith extend find get index insert isalnum isalpha isdigit islower isspace isupper "
    "items join keys ljust lower lstrip partition pop remove replace reverse rfind rjust rpartition rsplit rstrip "
    "setdefault split splitlines startswith strip update upper values zfill bit_length".split()
)
NOWHERE = set("register mro elements open input version_info with_traceback add_note format format_map".split())
WORDS_NOWHERE = re.compile(
    r"\b(type|typing|typing_extensions|enum|Enum|IntEnum|StrEnum|Flag|IntFlag|Generic|Protocol|ABC|ABCMeta|namedtuple"
    r"|NamedTuple|TypedDict|TYPE_CHECKING|abstractmethod)\b|dataclass|overload|contextmanager"
)


def sources():
    return {path.relative_to(PACKAGE).as_posix(): path.read_text("utf-8") for path in sorted(PACKAGE.rglob("*.py"))}


def trees():
    return {name: ast.parse(source) for name, source in sources().items()}


def bound_names(tree):
    """Every name that a file binds or imports, with its parameters, methods and defs."""
    names = set()
    for node in ast.walk(tree):
        if isinstance(node, ast.Name) and isinstance(node.ctx, ast.Store):
            names.add(node.id)
        elif isinstance(node, ast.arg):
            names.add(node.arg)
        elif isinstance(node, (ast.FunctionDef, ast.ClassDef)):
            names.add(node.name)
        elif isinstance(node, ast.alias):
            names.add(node.name)
    return names


class Language(unittest.TestCase):
    def test_nothing_but_plain_files_lies_in_the_package(self):
        for path in PACKAGE.rglob("*"):
            if "__pycache__" not in path.parts:
                self.assertRegex(path.relative_to(PACKAGE).as_posix(), r"^(__init__|[a-z][a-z0-9_]*)\.py$")

    def test_sizes_and_signs(self):
        for name, source in sources().items():
            lines = source.split("\n")
            self.assertLessEqual(len(lines), 400, name)
            for number, line in enumerate(lines, 1):
                self.assertLessEqual(len(line), 120, (name, number))
                self.assertRegex(line, r"^[ -~]*$", (name, number))
                self.assertNotRegex(line, WORDS_NOWHERE, (name, number))

    def test_forms(self):
        for name, tree in trees().items():
            for node in ast.walk(tree):
                where = (name, getattr(node, "lineno", 0), ast.dump(node)[:80])
                self.assertIsInstance(node, ALLOWED_NODES, where)
                if isinstance(node, ast.Constant):
                    self.assertIsInstance(node.value, (int, str, type(None)), where)
                if isinstance(node, (ast.Div, ast.MatMult)):
                    self.fail(where)
                if isinstance(node, (ast.While, ast.For)):
                    self.assertEqual(node.orelse, [], where)
                if isinstance(node, ast.Assign):
                    self.assertEqual(len(node.targets), 1, where)
                if isinstance(node, ast.ListComp):
                    self.assertEqual(len(node.generators), 1, where)
                    self.assertLessEqual(len(node.generators[0].ifs), 1, where)

    def test_functions(self):
        for name, tree in trees().items():
            for node in ast.walk(tree):
                if isinstance(node, ast.FunctionDef):
                    where = (name, node.name)
                    self.assertLessEqual(node.end_lineno - node.lineno + 1, 40, where)
                    self.assertEqual(node.decorator_list, [], where)
                    spread = node.args.vararg or node.args.kwarg or node.args.kwonlyargs or node.args.posonlyargs
                    self.assertFalse(spread, where)

    def test_names(self):
        for name, tree in trees().items():
            bound = bound_names(tree)
            for own in sorted(bound - {"__init__"}):
                self.assertRegex(own, r"^[A-Za-z][A-Za-z0-9_]*$", name)
                self.assertNotIn(own, dir(__builtins__) if not isinstance(__builtins__, dict) else __builtins__, name)
                self.assertNotIn(own, NOWHERE, name)
            for node in ast.walk(tree):
                if isinstance(node, ast.Name):
                    self.assertIn(node.id, bound | BUILT_IN, (name, node.lineno))

    def test_each_name_once_at_the_top(self):
        for name, tree in trees().items():
            tops = []
            for node in tree.body:
                if isinstance(node, (ast.FunctionDef, ast.ClassDef)):
                    tops.append(node.name)
                elif isinstance(node, ast.Assign):
                    tops.append(node.targets[0].id)
                elif isinstance(node, ast.ImportFrom):
                    tops.extend(alias.name for alias in node.names)
                else:
                    self.assertTrue(isinstance(node, ast.Expr) and isinstance(node.value, ast.Constant), name)
            self.assertEqual(len(tops), len(set(tops)), name)

    def test_attributes(self):
        methods, values = set(), set()
        for tree in trees().values():
            for node in ast.walk(tree):
                if isinstance(node, ast.ClassDef):
                    methods |= {inner.name for inner in node.body if isinstance(inner, ast.FunctionDef)}
                if isinstance(node, ast.Attribute) and isinstance(node.ctx, ast.Store):
                    values.add(node.attr)
        self.assertEqual(methods & values, set())
        for kind in (str, int, list, dict, set, bytes):
            self.assertEqual((methods | values) & set(dir(kind)) - {"__init__"}, set())
        for name, tree in trees().items():
            for node in ast.walk(tree):
                if isinstance(node, ast.Attribute):
                    self.assertIn(node.attr, methods | values | METHODS, (name, node.lineno))
                    self.assertNotIn(node.attr, NOWHERE, (name, node.lineno))

    def test_imports(self):
        draws = {}
        for name, tree in trees().items():
            draws[name] = []
            for node in ast.walk(tree):
                if isinstance(node, ast.ImportFrom):
                    self.assertEqual(node.level, 0, name)
                    self.assertRegex(node.module, r"^proofmarks\.[a-z_]+$", name)
                    self.assertIn(node, tree.body, name)
                    self.assertTrue(all(alias.asname is None for alias in node.names), name)
                    draws[name].append(node.module.split(".")[1] + ".py")
        self.assertEqual(draws["__init__.py"], [])
        left = dict(draws)
        while left:
            free = [name for name, drawn in left.items() if not set(drawn) & set(left)]
            self.assertTrue(free, f"files draw from one another: {left}")
            left = {name: drawn for name, drawn in left.items() if name not in free}


if __name__ == "__main__":
    unittest.main()
