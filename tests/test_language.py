"""The package keeps to its part of Python, as far as a reading of its files can tell."""

import ast
import builtins
import pathlib
import re
import unittest

PACKAGE = pathlib.Path(__file__).resolve().parent.parent / "bestwishes"

OWN_NAMES = set(
    "len range enumerate zip min max sum abs sorted reversed int str bool list tuple dict set frozenset isinstance"
    " ord repr any all divmod Exception ValueError TypeError KeyError IndexError LookupError ZeroDivisionError"
    " ArithmeticError OverflowError RuntimeError NotImplementedError AttributeError StopIteration".split())

METHODS = set(
    "append clear copy count endswith extend find get index insert isalnum isalpha isdigit islower isspace isupper"
    " items join keys ljust lower lstrip partition pop remove replace reverse rfind rjust rpartition rsplit rstrip"
    " setdefault split splitlines startswith strip update upper values zfill bit_length __init__".split())

UNUSED_WORDS = re.compile(
    r"\b(type|typing|typing_extensions|enum|Enum|IntEnum|StrEnum|Flag|IntFlag|Generic|Protocol|ABC|ABCMeta|namedtuple"
    r"|NamedTuple|TypedDict|TYPE_CHECKING|abstractmethod)\b|dataclass|overload|contextmanager")

NODES = (
    ast.Module, ast.ImportFrom, ast.alias, ast.FunctionDef, ast.ClassDef, ast.arguments, ast.arg, ast.Lambda,
    ast.Assign, ast.AugAssign, ast.If, ast.While, ast.For, ast.Return, ast.Break, ast.Continue, ast.Pass, ast.Raise,
    ast.Try, ast.ExceptHandler, ast.Expr, ast.Constant, ast.List, ast.Tuple, ast.Dict, ast.BinOp, ast.UnaryOp,
    ast.BoolOp, ast.Compare, ast.IfExp, ast.Call, ast.keyword, ast.Attribute, ast.Subscript, ast.Slice, ast.ListComp,
    ast.comprehension, ast.JoinedStr, ast.FormattedValue, ast.Name, ast.expr_context, ast.operator, ast.unaryop,
    ast.boolop, ast.cmpop)


def files():
    return sorted(PACKAGE.rglob("*.py"))


def nodes():
    for path in files():
        for node in ast.walk(ast.parse(path.read_text(encoding="ascii"))):
            yield path.name, node


def own_methods():
    return {part.name for name, node in nodes() if isinstance(node, ast.ClassDef)
            for part in node.body if isinstance(part, ast.FunctionDef)}


def top_names(path):
    """What a file itself defines at its top: functions, classes and plain values."""
    top = ast.parse(path.read_text(encoding="ascii")).body
    names = {node.name for node in top if isinstance(node, (ast.FunctionDef, ast.ClassDef))}
    return names | {node.targets[0].id for node in top if isinstance(node, ast.Assign)}


class Language(unittest.TestCase):

    def test_files(self):
        self.assertIn(PACKAGE / "__init__.py", files())
        for path in PACKAGE.rglob("*"):
            if "__pycache__" not in path.parts:
                self.assertRegex(path.name, r"^[a-z0-9_]+\.py$")

    def test_signs_and_sizes(self):
        for path in files():
            lines = path.read_text(encoding="ascii").split("\n")
            self.assertLessEqual(len(lines) - 1, 399, path)
            for line in lines:
                self.assertLessEqual(len(line), 120, path)
                self.assertRegex(line, r"^[ -~]*$", path)
                self.assertIsNone(UNUSED_WORDS.search(line), (path, line))

    def test_functions_are_short_and_plain(self):
        for name, node in nodes():
            if isinstance(node, ast.FunctionDef):
                self.assertLessEqual(node.end_lineno - node.lineno + 1, 40, (name, node.name))
                self.assertEqual(node.decorator_list, [], (name, node.name))
                self.assertIsNone(node.args.vararg or node.args.kwarg, (name, node.name))

    def test_statements_and_expressions(self):
        for name, node in nodes():
            self.assertIsInstance(node, NODES, (name, getattr(node, "lineno", 0)))
            self.assertNotIsInstance(node, (ast.Div, ast.MatMult), name)
            if isinstance(node, ast.Constant):
                self.assertIn(type(node.value), (int, str, bool, type(None)), name)
            if isinstance(node, (ast.For, ast.While)):
                self.assertEqual(node.orelse, [], name)
            if isinstance(node, ast.Assign):
                self.assertEqual(len(node.targets), 1, name)

    def test_names(self):
        python = set(dir(builtins)) - OWN_NAMES
        for name, node in nodes():
            if isinstance(node, ast.Name):
                self.assertNotIn(node.id, python, name)
                self.assertFalse(node.id.startswith("_"), (name, node.id))
                if isinstance(node.ctx, ast.Store):
                    self.assertNotIn(node.id, OWN_NAMES, name)
            if isinstance(node, ast.arg):
                self.assertNotIn(node.arg, python | OWN_NAMES, name)

    def test_imports(self):
        for name, node in nodes():
            if isinstance(node, ast.ImportFrom):
                self.assertEqual((node.level, node.module.split(".")[0]), (0, "bestwishes"), name)

    def test_names_are_drawn_from_the_file_that_defines_them(self):
        tops = {path.stem: top_names(path) for path in files()}
        for name, node in nodes():
            if isinstance(node, ast.ImportFrom):
                for part in node.names:
                    self.assertIsNone(part.asname, name)
                    self.assertIn(part.name, tops[node.module.split(".")[1]], name)

    def test_no_two_files_draw_from_one_another(self):
        drawn = {path.stem: set() for path in files()}
        for name, node in nodes():
            if isinstance(node, ast.ImportFrom):
                drawn[name.split(".")[0]].add(node.module.split(".")[1])
        while drawn:
            free = [name for name in drawn if not drawn[name] & set(drawn)]
            self.assertNotEqual(free, [], drawn)
            drawn = {name: drawn[name] for name in drawn if name not in free}

    def test_locals_are_not_called_like_imports_and_classes(self):
        for path in files():
            tree = ast.parse(path.read_text(encoding="ascii"))
            taken = {part.name for node in tree.body if isinstance(node, ast.ImportFrom) for part in node.names}
            taken |= {node.name for node in tree.body if isinstance(node, ast.ClassDef)}
            stored = [node.id for node in ast.walk(tree)
                      if isinstance(node, ast.Name) and isinstance(node.ctx, ast.Store)]
            stored += [node.arg for node in ast.walk(tree) if isinstance(node, ast.arg)]
            self.assertEqual(taken & set(stored), set(), path.name)

    def test_no_name_is_a_method_and_a_value(self):
        values = {node.attr for name, node in nodes() if isinstance(node, ast.Attribute)
                  and isinstance(node.ctx, ast.Store)}
        self.assertEqual(values & own_methods(), set())
        python = {part for kind in (str, int, list, dict, set, bytes, tuple) for part in dir(kind)}
        self.assertEqual((values | own_methods() - {"__init__"}) & python, set())

    def test_errors_of_the_text_alone_are_raised_and_all_are_taken(self):
        raised = {node.exc.func.id for name, node in nodes() if isinstance(node, ast.Raise)}
        caught = {node.type.id for name, node in nodes() if isinstance(node, ast.ExceptHandler)}
        self.assertEqual((raised, caught), ({"Fault"}, {"Fault"}))

    def test_methods(self):
        allowed = METHODS | own_methods()
        for name, node in nodes():
            if isinstance(node, ast.Call) and isinstance(node.func, ast.Attribute):
                self.assertIn(node.func.attr, allowed, name)

    def test_what_a_files_top_holds_is_not_handed_on(self):
        for path in files():
            tree = ast.parse(path.read_text(encoding="ascii"))
            kept = {node.targets[0].id for node in tree.body if isinstance(node, ast.Assign)
                    and isinstance(node.value, (ast.List, ast.Tuple, ast.Dict))}
            read = [part.value for part in ast.walk(tree) if isinstance(part, ast.Subscript)]
            read += [part.iter for part in ast.walk(tree) if isinstance(part, (ast.For, ast.comprehension))]
            read += [each for part in ast.walk(tree) if isinstance(part, ast.Compare) for each in part.comparators]
            for node in ast.walk(tree):
                if isinstance(node, ast.Name) and isinstance(node.ctx, ast.Load) and node.id in kept:
                    self.assertIn(node, read, (path.name, node.id))


if __name__ == "__main__":
    unittest.main()
