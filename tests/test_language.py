"""That the package's files keep to the small part of Python that the program is written in."""

import ast
import builtins
import pathlib
import re
import unittest

PACKAGE = pathlib.Path(__file__).resolve().parent.parent / "doorcardsdesk"

NODES = (
    ast.Module, ast.FunctionDef, ast.arguments, ast.arg, ast.ClassDef, ast.Lambda, ast.ImportFrom, ast.alias,
    ast.Assign, ast.AugAssign, ast.If, ast.While, ast.For, ast.Return, ast.Break, ast.Continue, ast.Pass, ast.Raise,
    ast.Try, ast.ExceptHandler, ast.Expr, ast.Constant, ast.List, ast.Tuple, ast.Dict, ast.BinOp, ast.UnaryOp,
    ast.BoolOp, ast.Compare, ast.IfExp, ast.Call, ast.Attribute, ast.Subscript, ast.Slice, ast.ListComp,
    ast.comprehension, ast.JoinedStr, ast.FormattedValue, ast.Name, ast.keyword, ast.operator, ast.unaryop, ast.boolop,
    ast.cmpop, ast.expr_context,
)

OWN_OF_PYTHON = set((
    "len range enumerate zip min max sum abs sorted reversed int str bool list tuple dict set isinstance ord repr any "
    "all divmod Exception ValueError TypeError KeyError IndexError LookupError ZeroDivisionError ArithmeticError "
    "OverflowError RuntimeError NotImplementedError AttributeError StopIteration"
).split())

METHODS_OF_PYTHON = set((
    "append clear copy count endswith extend find get index insert isalnum isalpha isdigit islower isspace isupper "
    "items join keys ljust lower lstrip partition pop remove replace reverse rfind rjust rpartition rsplit rstrip "
    "setdefault split splitlines startswith strip update upper values zfill bit_length"
).split())

CHANGING = {"append", "clear", "extend", "insert", "pop", "remove", "reverse", "setdefault", "update"}

WORDS_NOWHERE = re.compile(
    r"\b(type|typing|typing_extensions|enum|Enum|IntEnum|StrEnum|Flag|IntFlag|Generic|Protocol|ABC|ABCMeta|namedtuple"
    r"|NamedTuple|TypedDict|TYPE_CHECKING|abstractmethod)\b|dataclass|overload|contextmanager"
)

WALKED_AT_ONCE = {"range", "enumerate", "zip", "reversed", "items", "keys", "values"}
WALKING = {"list", "tuple", "dict", "sorted", "sum", "any", "all", "enumerate", "zip", "min", "max"}

# What an object's value may be called though Python's own values have a method of that name.
VALUES_TOO = {"count", "index", "title", "find", "get", "join", "lower", "upper", "split", "strip", "copy", "add"}

NAMES_NOWHERE = {"register", "mro", "elements", "open", "input", "version_info", "with_traceback", "add_note"}


def sources():
    return sorted(path for path in PACKAGE.rglob("*") if path.is_file() and "__pycache__" not in path.parts)


def is_plain(node, functions):
    """Whether a file's top may give this value to a name."""
    if isinstance(node, ast.UnaryOp) and isinstance(node.op, ast.USub):
        return isinstance(node.operand, ast.Constant) and isinstance(node.operand.value, int)
    if isinstance(node, ast.Constant):
        return node.value is None or isinstance(node.value, (int, str))
    if isinstance(node, ast.Name):
        return node.id in functions
    if isinstance(node, (ast.List, ast.Tuple)):
        return all(is_plain(each, functions) for each in node.elts)
    if isinstance(node, ast.Dict):
        return all(is_plain(each, functions) for each in node.keys + node.values)
    return False


class LanguageTest(unittest.TestCase):
    def each_tree(self):
        return [ast.parse(path.read_text("utf-8"), path.name) for path in sources()]

    def test_files(self):
        self.assertIn(PACKAGE / "__init__.py", sources())
        for path in sources():
            self.assertRegex(path.name, r"^([a-z][a-z0-9_]*|__init__)\.py$")
            self.assertNotIn(path.stem, dir(builtins))

    def test_size_and_signs(self):
        for path in sources():
            text = path.read_text("utf-8")
            self.assertRegex(text, r"\A[ -~\n]*\n\Z")
            self.assertIsNone(WORDS_NOWHERE.search(text), path.name)
            rows = text.split("\n")
            self.assertLessEqual(len(rows), 401)
            self.assertLessEqual(max(map(len, rows)), 120)

    def test_functions_are_short(self):
        for tree in self.each_tree():
            for node in ast.walk(tree):
                if isinstance(node, ast.FunctionDef):
                    self.assertLessEqual(node.end_lineno - node.lineno + 1, 40, node.name)
                    self.assertEqual(node.decorator_list, [])
                    self.assertIsNone(node.args.vararg or node.args.kwarg or node.returns)
                    self.assertEqual(node.args.kwonlyargs + node.args.posonlyargs, [])

    def test_forms(self):
        for tree in self.each_tree():
            for node in ast.walk(tree):
                self.assertIsInstance(node, NODES)
                self.assertNotIsInstance(node, (ast.Div, ast.MatMult))
                if isinstance(node, ast.Constant):
                    self.assertIn(type(node.value), (int, str, bool, type(None)))
                if isinstance(node, ast.Assign):
                    self.assertEqual(len(node.targets), 1)
                    self.assertIsInstance(node.targets[0], (ast.Name, ast.Attribute, ast.Subscript))
                if isinstance(node, (ast.For, ast.While)):
                    self.assertEqual(node.orelse, [])
                if isinstance(node, ast.Compare) and {ast.Is, ast.IsNot} & set(map(type, node.ops)):
                    self.assertIsInstance(node.comparators[0], ast.Constant)
                if isinstance(node, ast.BinOp) and isinstance(node.op, ast.Pow):
                    self.assertIsInstance(node.right, ast.Constant)

    def test_the_top_of_a_file(self):
        for tree in self.each_tree():
            self.assertIsNotNone(ast.get_docstring(tree))
            functions, bound = [], []
            for node in tree.body[1:]:
                self.assertIsInstance(node, (ast.ImportFrom, ast.FunctionDef, ast.ClassDef, ast.Assign))
                if isinstance(node, ast.ImportFrom):
                    self.assertEqual(node.level, 0)
                    self.assertTrue(node.module.startswith("doorcardsdesk."))
                    bound.extend(each.name for each in node.names)
                elif isinstance(node, ast.Assign):
                    self.assertTrue(is_plain(node.value, functions), ast.unparse(node))
                    bound.append(node.targets[0].id)
                else:
                    bound.append(node.name)
                    if isinstance(node, ast.FunctionDef):
                        functions.append(node.name)
            self.assertEqual(len(bound), len(set(bound)))

    def test_names(self):
        for tree in self.each_tree():
            for node in ast.walk(tree):
                if isinstance(node, ast.Name) and isinstance(node.ctx, ast.Load):
                    if node.id in dir(builtins):
                        self.assertIn(node.id, OWN_OF_PYTHON)
                for given in self.names_given_by(node):
                    self.assertRegex(given, r"^([A-Za-z][A-Za-z0-9_]*|__init__)$")
                    self.assertNotIn(given, NAMES_NOWHERE)
                    self.assertNotIn(given, dir(builtins))

    def names_given_by(self, node):
        if isinstance(node, (ast.FunctionDef, ast.ClassDef)):
            return [node.name]
        if isinstance(node, ast.arg):
            return [node.arg]
        if isinstance(node, ast.Name) and isinstance(node.ctx, ast.Store):
            return [node.id]
        if isinstance(node, ast.Attribute) and isinstance(node.ctx, ast.Store):
            return [node.attr]
        return []

    def test_methods_and_values(self):
        methods, values, called = set(), set(), set()
        for tree in self.each_tree():
            for node in ast.walk(tree):
                if isinstance(node, ast.ClassDef):
                    methods.update(each.name for each in node.body if isinstance(each, ast.FunctionDef))
                if isinstance(node, ast.Attribute) and isinstance(node.ctx, ast.Store):
                    values.add(node.attr)
                if isinstance(node, ast.Call) and isinstance(node.func, ast.Attribute):
                    called.add(node.func.attr)
        self.assertEqual(methods & values, set())
        self.assertLessEqual(called, methods | METHODS_OF_PYTHON)
        of_python = {name for kind in (str, int, list, dict, set, bytes, tuple) for name in dir(kind)}
        self.assertLessEqual(values & of_python, VALUES_TOO)
        self.assertLessEqual(methods & of_python, METHODS_OF_PYTHON | {"__init__", "add", "discard"})

    def test_no_local_is_called_like_a_class_or_an_import(self):
        for tree in self.each_tree():
            taken = {node.name for node in tree.body if isinstance(node, ast.ClassDef)}
            for node in tree.body:
                if isinstance(node, ast.ImportFrom):
                    taken.update(each.name for each in node.names)
            for top in tree.body:
                if isinstance(top, (ast.FunctionDef, ast.ClassDef)):
                    for node in ast.walk(top):
                        if isinstance(node, (ast.arg, ast.Name)):
                            self.assertEqual(taken & set(self.names_given_by(node)), set())

    def test_walked_on_the_spot(self):
        for tree in self.each_tree():
            fine = []
            for node in ast.walk(tree):
                if isinstance(node, (ast.For, ast.comprehension)):
                    fine.append(node.iter)
                if isinstance(node, ast.Call) and getattr(node.func, "id", None) in WALKING:
                    fine.extend(node.args)
            for node in ast.walk(tree):
                if isinstance(node, ast.Call):
                    name = getattr(node.func, "id", getattr(node.func, "attr", None))
                    if name in WALKED_AT_ONCE:
                        self.assertIn(node, fine, ast.unparse(node))

    def test_functions_of_python_are_called_and_not_kept(self):
        for tree in self.each_tree():
            called = [node.func for node in ast.walk(tree) if isinstance(node, ast.Call)]
            for node in ast.walk(tree):
                if isinstance(node, ast.Name) and node.id in OWN_OF_PYTHON:
                    self.assertIn(node, called, node.id)

    def test_imports_name_what_their_file_defines(self):
        defined = {}
        for path in sources():
            tree = ast.parse(path.read_text("utf-8"))
            names = {node.name for node in tree.body if isinstance(node, (ast.FunctionDef, ast.ClassDef))}
            names.update(node.targets[0].id for node in tree.body if isinstance(node, ast.Assign))
            defined["doorcardsdesk." + path.stem] = names
        for tree in self.each_tree():
            for node in tree.body:
                if isinstance(node, ast.ImportFrom):
                    self.assertLessEqual({each.name for each in node.names}, defined[node.module])
                    self.assertEqual([each.asname for each in node.names], [None] * len(node.names))

    def test_nothing_is_kept_at_a_files_top(self):
        for tree in self.each_tree():
            tops = {node.targets[0].id for node in tree.body if isinstance(node, ast.Assign)}
            for node in ast.walk(tree):
                if isinstance(node, ast.Subscript) and isinstance(node.ctx, ast.Store):
                    self.assertNotIn(getattr(node.value, "id", None), tops)
                if isinstance(node, ast.Call) and isinstance(node.func, ast.Attribute) and node.func.attr in CHANGING:
                    self.assertNotIn(getattr(node.func.value, "id", None), tops)

    def test_no_two_files_draw_from_one_another(self):
        drawn = {}
        for path in sources():
            tree = ast.parse(path.read_text("utf-8"))
            drawn[path.stem] = {node.module.split(".")[1] for node in tree.body if isinstance(node, ast.ImportFrom)}
        while drawn:
            done = {name for name, needs in drawn.items() if not needs & set(drawn)}
            self.assertTrue(done, "a ring of imports")
            drawn = {name: needs for name, needs in drawn.items() if name not in done}


if __name__ == "__main__":
    unittest.main()
