"""The form of the package's own files: the rules L1 to L28 as far as they can be seen in the syntax."""

import ast
import builtins
import pathlib
import re
import unittest

PACKAGE = pathlib.Path(__file__).resolve().parent.parent / "cardpunches"
STATEMENTS = (
    ast.Assign, ast.AugAssign, ast.If, ast.While, ast.For, ast.Return, ast.Break, ast.Continue, ast.Pass, ast.Raise,
    ast.Try, ast.Expr, ast.FunctionDef, ast.ClassDef, ast.ImportFrom,
)
EXPRESSIONS = (
    ast.Constant, ast.Name, ast.List, ast.Tuple, ast.Dict, ast.BinOp, ast.UnaryOp, ast.BoolOp, ast.Compare, ast.IfExp,
    ast.Call, ast.Attribute, ast.Subscript, ast.Slice, ast.ListComp, ast.JoinedStr, ast.FormattedValue, ast.Lambda,
)
BUILTINS = (
    "len range enumerate zip min max sum abs sorted reversed int str bool list tuple dict isinstance ord repr any all"
    " divmod set ValueError KeyError ZeroDivisionError StopIteration Exception LookupError IndexError"
).split()
METHODS = (
    "append clear copy count endswith extend find get index insert isalnum isalpha isdigit islower isspace isupper"
    " items join keys ljust lower lstrip partition pop remove replace reverse rfind rjust rpartition rsplit rstrip"
    " setdefault split splitlines startswith strip update upper values zfill bit_length"
).split()
WALKED = ("zip", "enumerate", "reversed", "range")
WALKERS = ("list", "tuple", "dict", "sorted", "sum", "any", "all", "enumerate", "zip", "min", "max")
CHANGES = "append clear extend insert pop remove reverse setdefault update".split()
READERS = ("len", "list", "dict", "tuple", "sorted", "sum", "min", "max", "any", "all", "enumerate", "zip", "reversed")
DUNDERS = ("__init__", "__eq__", "__repr__", "__str__", "__len__")
NOT_AS_NAMES = (
    "register mro elements open input version_info with_traceback add_note attrgetter breakpoint compile copyright"
    " credits delattr dir eval exec exit gc getattr globals hasattr help id importlib license locals methodcaller os"
    " quit setattr super sys vars chr"
).split()
NOWHERE = re.compile(
    r"\b(type|typing|typing_extensions|enum|Enum|IntEnum|StrEnum|Flag|IntFlag|Generic|Protocol|ABC|ABCMeta|namedtuple"
    r"|NamedTuple|TypedDict|TYPE_CHECKING|abstractmethod)\b|dataclass|overload|contextmanager"
)


def files():
    return sorted(path for path in PACKAGE.rglob("*") if "__pycache__" not in path.parts)


def trees():
    return [(path, ast.parse(path.read_text("utf-8"))) for path in files()]


def nodes(*kinds):
    for path, tree in trees():
        for node in ast.walk(tree):
            if isinstance(node, kinds):
                yield path.name, node


def bound_names(tree):
    """Parameters and locals of a tree, with their lines."""
    for node in ast.walk(tree):
        if isinstance(node, ast.arg):
            yield node.arg, node.lineno
        if isinstance(node, ast.Name) and isinstance(node.ctx, ast.Store):
            yield node.id, node.lineno


def parents(tree):
    above = {}
    for node in ast.walk(tree):
        for child in ast.iter_child_nodes(node):
            above[child] = node
    return above


def is_call_of(node, names):
    return isinstance(node, ast.Call) and isinstance(node.func, ast.Name) and node.func.id in names


class FileTest(unittest.TestCase):
    def test_only_plainly_named_python_files(self):
        for path in files():
            self.assertTrue(path.is_file(), path)
            self.assertRegex(path.name, r"^([a-z][a-z0-9_]*|__init__|__main__)\.py$")
            self.assertFalse(path.stem in dir(builtins), path)
            self.assertNotIn(path.stem, ("test", "tests", "testing", "site", "conftest"))

    def test_signs_and_sizes(self):
        for path in files():
            text = path.read_text("utf-8")
            self.assertRegex(text, r"\A[ -~\n]*\Z")
            lines = text.split("\n")
            self.assertLessEqual(len(lines), 399, path)
            self.assertLessEqual(max(len(line) for line in lines), 120, path)
            self.assertIsNone(NOWHERE.search(text), path)

    def test_length_of_functions(self):
        for name, node in nodes(ast.FunctionDef):
            self.assertLessEqual(node.end_lineno - node.lineno + 1, 40, (name, node.name))


class ImportTest(unittest.TestCase):
    def test_names_come_from_the_files_that_define_them(self):
        tops = {f"cardpunches.{path.stem}": tree for path, tree in trees()}
        for name, node in nodes(ast.ImportFrom):
            self.assertEqual(node.level, 0, name)
            self.assertIn(node.module, tops, name)
            defined = [one.name for one in tops[node.module].body if isinstance(one, (ast.FunctionDef, ast.ClassDef))]
            for alias in node.names:
                self.assertIn(alias.name, defined, name)
                self.assertIsNone(alias.asname)

    def test_no_two_files_draw_from_one_another(self):
        drawn = {path.stem: set() for path, tree in trees()}
        for name, node in nodes(ast.ImportFrom):
            drawn[name[:-3]].add(node.module.split(".")[1])
        while drawn:
            last = [name for name in drawn if not drawn[name]]
            self.assertTrue(last, drawn)
            drawn = {name: drawn[name] - set(last) for name in drawn if name not in last}

    def test_answers_stands_in_desk_alone(self):
        places = [name for name, node in nodes(ast.FunctionDef, ast.ClassDef) if node.name == "answers"]
        self.assertEqual(places, ["desk.py"])


class TopTest(unittest.TestCase):
    def test_what_stands_at_the_top(self):
        for path, tree in trees():
            names = []
            for place, node in enumerate(tree.body):
                if isinstance(node, ast.Expr):
                    self.assertEqual(place, 0, path)
                    self.assertIsInstance(node.value.value, str)
                    continue
                self.assertIsInstance(node, (ast.ImportFrom, ast.FunctionDef, ast.ClassDef, ast.Assign), path)
                if isinstance(node, (ast.FunctionDef, ast.ClassDef)):
                    names.append(node.name)
                elif isinstance(node, ast.ImportFrom):
                    names += [alias.name for alias in node.names]
                else:
                    names.append(node.targets[0].id)
                    ast.literal_eval(node.value)
            self.assertEqual(len(names), len(set(names)), path)

    def test_what_the_top_keeps_is_only_read(self):
        for path, tree in trees():
            kept = [node.targets[0].id for node in tree.body
                    if isinstance(node, ast.Assign) and isinstance(node.value, (ast.List, ast.Dict, ast.Tuple))]
            above = parents(tree)
            for node in ast.walk(tree):
                if not (isinstance(node, ast.Name) and node.id in kept and isinstance(node.ctx, ast.Load)):
                    continue
                user = above[node]
                read = isinstance(user, (ast.Compare, ast.For, ast.comprehension)) or is_call_of(user, READERS)
                read = read or isinstance(user, ast.Subscript) and isinstance(user.ctx, ast.Load)
                read = read or isinstance(user, ast.Attribute) and user.attr in ("get", "items", "keys", "values")
                self.assertTrue(read, (path, node.lineno))


class SyntaxTest(unittest.TestCase):
    def test_statements(self):
        for name, node in nodes(ast.stmt):
            self.assertIsInstance(node, STATEMENTS, (name, node.lineno))
            if isinstance(node, (ast.For, ast.While)):
                self.assertFalse(node.orelse, (name, node.lineno))
            if isinstance(node, ast.Assign):
                self.assertEqual(len(node.targets), 1)
                self.assertNotIsInstance(node.targets[0], (ast.Tuple, ast.List), (name, node.lineno))
            if isinstance(node, ast.Try):
                self.assertFalse(node.finalbody, (name, node.lineno))

    def test_expressions(self):
        for name, node in nodes(ast.expr):
            self.assertIsInstance(node, EXPRESSIONS, (name, node.lineno))
            if isinstance(node, ast.Constant) and node.value is not None:
                self.assertIn(node.value.__class__, (int, str, bool), (name, node.lineno))
            if isinstance(node, ast.Constant) and isinstance(node.value, str):
                self.assertNotIn("%", node.value, (name, node.lineno))
            if isinstance(node, ast.ListComp):
                self.assertEqual(len(node.generators), 1, (name, node.lineno))
                self.assertLessEqual(len(node.generators[0].ifs), 1, (name, node.lineno))
            if isinstance(node, ast.BinOp):
                self.assertNotIsInstance(node.op, (ast.Div, ast.Pow, ast.MatMult), (name, node.lineno))
            if isinstance(node, ast.Call):
                self.assertNotIsInstance(node.func, ast.Call, (name, node.lineno))

    def test_is_stands_beside_none_true_and_false(self):
        for name, node in nodes(ast.Compare):
            for op, right in zip(node.ops, node.comparators):
                if isinstance(op, (ast.Is, ast.IsNot)):
                    self.assertIsInstance(right, ast.Constant, (name, node.lineno))
                    self.assertIn(right.value, (None, True, False))

    def test_functions_and_classes(self):
        for name, node in nodes(ast.FunctionDef):
            where = (name, node.name)
            self.assertFalse(node.decorator_list, where)
            self.assertFalse(node.args.vararg or node.args.kwarg or node.args.kwonlyargs or node.args.posonlyargs, where)
            self.assertIsNone(node.returns, where)
        for name, node in nodes(ast.ClassDef):
            self.assertFalse(node.decorator_list, node.name)
            self.assertLessEqual(len(node.bases), 1, node.name)
            for one in node.body:
                self.assertTrue(isinstance(one, ast.FunctionDef) or isinstance(one.value, ast.Constant), node.name)

    def test_parameters_are_plain(self):
        for name, node in nodes(ast.FunctionDef, ast.Lambda):
            for default in node.args.defaults:
                self.assertIsInstance(default, ast.Constant, (name, node.lineno))
            for parameter in node.args.args:
                self.assertIsNone(parameter.annotation, (name, node.lineno))

    def test_texts_with_names_in_them(self):
        for name, node in nodes(ast.FormattedValue):
            self.assertIsInstance(node.value, ast.Name, (name, node.lineno))
            self.assertIsNone(node.format_spec, (name, node.lineno))
            self.assertIn(node.conversion, (-1, ord("r")), (name, node.lineno))

    def test_keywords(self):
        allowed = {"sorted": ("key", "reverse"), "min": ("key", "default"), "max": ("key", "default"),
                   "sum": ("start",), "enumerate": ("start",), "zip": ("strict",)}
        for name, node in nodes(ast.Call):
            for keyword in node.keywords:
                self.assertIsInstance(node.func, ast.Name, (name, node.lineno))
                self.assertIn(keyword.arg, allowed.get(node.func.id, ()), (name, node.lineno))

    def test_errors_that_are_taken(self):
        taken = []
        for name, node in nodes(ast.ExceptHandler):
            self.assertIsNotNone(node.type, (name, node.lineno))
            taken += [(one.id, name, node.lineno) for one in ast.walk(node.type) if isinstance(one, ast.Name)]
        for error, name, line in taken:
            # ValueError, LookupError and IndexError have rules of their own: none is taken as things are.
            self.assertFalse(hasattr(builtins, error) and error not in ("KeyError", "ZeroDivisionError"), (name, line))

    def test_classes_are_not_handed_on(self):
        for path, tree in trees():
            known = [node.name for one, other in trees() for node in other.body if isinstance(node, ast.ClassDef)]
            above = parents(tree)
            for node in ast.walk(tree):
                if isinstance(node, ast.Name) and node.id in known:
                    user = above[node]
                    called = isinstance(user, ast.Call) and user.func is node
                    asked = is_call_of(user, ("isinstance",)) and user.args[1] is node
                    used = called or asked or isinstance(user, (ast.ClassDef, ast.ExceptHandler, ast.Raise))
                    self.assertTrue(used, (path, node.lineno))

    def test_what_the_top_keeps_holds_no_list_or_dict(self):
        for path, tree in trees():
            for node in tree.body:
                if isinstance(node, ast.Assign):
                    inner = [one for one in ast.walk(node.value) if one is not node.value]
                    self.assertFalse([one for one in inner if isinstance(one, (ast.List, ast.Dict, ast.Set))], path)

    def test_walked_on_the_spot(self):
        for path, tree in trees():
            above = parents(tree)
            for node in ast.walk(tree):
                if is_call_of(node, WALKED):
                    user = above[node]
                    walked = isinstance(user, (ast.For, ast.comprehension)) or is_call_of(user, WALKERS)
                    self.assertTrue(walked, (path, node.lineno))

    def test_what_a_loop_walks_is_not_changed(self):
        for name, loop in nodes(ast.For):
            walked = {node.id for node in ast.walk(loop.iter) if isinstance(node, ast.Name)}
            for node in [inner for one in loop.body for inner in ast.walk(one)]:
                changed = None
                if isinstance(node, ast.Attribute) and node.attr in CHANGES:
                    changed = node.value
                if isinstance(node, ast.Subscript) and isinstance(node.ctx, ast.Store):
                    changed = node.value
                if isinstance(changed, ast.Name):
                    self.assertNotIn(changed.id, walked, (name, node.lineno))


class NameTest(unittest.TestCase):
    def test_own_names(self):
        for path, tree in trees():
            classes = [node.name for node in tree.body if isinstance(node, ast.ClassDef)]
            imported = [alias.name for node in tree.body if isinstance(node, ast.ImportFrom) for alias in node.names]
            for name, line in bound_names(tree):
                self.assertRegex(name, r"^[A-Za-z][A-Za-z0-9_]*$", (path, line))
                self.assertFalse(hasattr(builtins, name), (path, line, name))
                self.assertNotIn(name, classes + imported, (path, line))
        for name, node in nodes(ast.FunctionDef, ast.ClassDef):
            if node.name not in DUNDERS:
                self.assertRegex(node.name, r"^[A-Za-z][A-Za-z0-9_]*$", name)
                self.assertFalse(hasattr(builtins, node.name), (name, node.name))

    def test_names_of_pythons_own(self):
        for name, node in nodes(ast.Name):
            self.assertNotIn(node.id, NOT_AS_NAMES, (name, node.lineno))
            if hasattr(builtins, node.id):
                self.assertIn(node.id, BUILTINS, (name, node.lineno))

    def test_methods_and_values(self):
        methods = set()
        values = set()
        for name, node in nodes(ast.ClassDef):
            methods |= {one.name for one in node.body if isinstance(one, ast.FunctionDef)}
            for one in ast.walk(node):
                if isinstance(one, ast.Attribute) and isinstance(one.ctx, ast.Store):
                    values.add(one.attr)
        self.assertFalse(methods & values)
        owned = {name for kind in (str, int, list, dict, set, bytes, tuple) for name in dir(kind)}
        self.assertFalse((methods | values) & owned - set(DUNDERS))
        for name, node in nodes(ast.Attribute):
            self.assertNotIn(node.attr, NOT_AS_NAMES, (name, node.lineno))
            self.assertIn(node.attr, list(methods | values) + METHODS, (name, node.lineno))

    def test_methods_are_called_where_they_stand(self):
        for path, tree in trees():
            above = parents(tree)
            for node in ast.walk(tree):
                if isinstance(node, ast.Attribute) and node.attr in METHODS:
                    user = above[node]
                    self.assertTrue(isinstance(user, ast.Call) and user.func is node, (path, node.lineno))


if __name__ == "__main__":
    unittest.main()
