"""The package keeps to its small part of Python: no clock, chance, file or outside package can come in."""

import ast
import builtins
import re
import unittest
from pathlib import Path

PACKAGE = Path(__file__).resolve().parent.parent / "posthouses"

BUILT_IN = set("""
    len range enumerate zip min max sum abs sorted reversed int str bool list tuple dict set frozenset isinstance ord
    repr any all divmod Exception ValueError TypeError KeyError IndexError LookupError ZeroDivisionError
    ArithmeticError OverflowError RuntimeError NotImplementedError AttributeError StopIteration
""".split())

METHODS_OF_PYTHON = set("""
    append clear copy count endswith extend find get index insert isalnum isalpha isdigit islower isspace isupper items
    join keys ljust lower lstrip partition pop remove replace reverse rfind rjust rpartition rsplit rstrip setdefault
    split splitlines startswith strip update upper values zfill bit_length
""".split())

UNDERSCORED_METHODS = {"__init__", "__eq__", "__repr__", "__str__", "__len__"}

WORDS_NOWHERE = set("""
    type typing typing_extensions enum Enum IntEnum StrEnum Flag IntFlag Generic Protocol ABC ABCMeta namedtuple
    NamedTuple TypedDict TYPE_CHECKING abstractmethod
""".split())

NAMES_NOWHERE = {"register", "mro", "elements", "open", "input", "version_info", "with_traceback", "add_note",
                 "format", "format_map"}

FORMS = (
    ast.Module, ast.ImportFrom, ast.alias, ast.FunctionDef, ast.arguments, ast.arg, ast.Lambda, ast.ClassDef,
    ast.Assign, ast.AugAssign, ast.If, ast.While, ast.For, ast.Return, ast.Break, ast.Continue, ast.Pass, ast.Raise,
    ast.Try, ast.ExceptHandler, ast.Expr, ast.Constant, ast.List, ast.Tuple, ast.Dict, ast.Set, ast.Name,
    ast.BinOp, ast.Add, ast.Sub, ast.Mult, ast.FloorDiv, ast.Mod, ast.Pow, ast.BitAnd, ast.BitOr, ast.BitXor,
    ast.LShift, ast.RShift, ast.UnaryOp, ast.Not, ast.USub, ast.UAdd, ast.Invert, ast.BoolOp, ast.And, ast.Or,
    ast.Compare, ast.Eq, ast.NotEq, ast.Lt, ast.LtE, ast.Gt, ast.GtE, ast.In, ast.NotIn, ast.Is, ast.IsNot,
    ast.IfExp, ast.Call, ast.keyword, ast.Attribute, ast.Subscript, ast.Slice, ast.ListComp, ast.comprehension,
    ast.JoinedStr, ast.FormattedValue, ast.Load, ast.Store,
)


def bound_names(tree):
    names = set()
    for node in ast.walk(tree):
        if isinstance(node, (ast.FunctionDef, ast.ClassDef)):
            names.add(node.name)
        elif isinstance(node, ast.arg):
            names.add(node.arg)
        elif isinstance(node, ast.Name) and isinstance(node.ctx, ast.Store):
            names.add(node.id)
        elif isinstance(node, ast.alias):
            names.add(node.asname or node.name)
        elif isinstance(node, ast.ExceptHandler) and node.name:
            names.add(node.name)
    return names


def methods_of_package(trees):
    return {method.name for tree in trees for node in ast.walk(tree) if isinstance(node, ast.ClassDef)
            for method in node.body if isinstance(method, ast.FunctionDef)}


def values_of_objects(trees):
    return {node.attr for tree in trees for node in ast.walk(tree)
            if isinstance(node, ast.Attribute) and isinstance(node.ctx, ast.Store)}


def imported_names(tree):
    return {alias.name for node in ast.walk(tree) if isinstance(node, ast.ImportFrom) for alias in node.names}


def names_within_defs(tree):
    names = set()
    for node in ast.walk(tree):
        if isinstance(node, (ast.FunctionDef, ast.ListComp)):
            for part in ast.walk(node):
                if isinstance(part, ast.arg):
                    names.add(part.arg)
                elif isinstance(part, ast.Name) and isinstance(part.ctx, ast.Store):
                    names.add(part.id)
    return names


def is_called(node, names):
    if not isinstance(node, ast.Call):
        return False
    return (node.func.id if isinstance(node.func, ast.Name) else getattr(node.func, "attr", "")) in names


class Language(unittest.TestCase):
    def setUp(self):
        self.files = sorted(path for path in PACKAGE.rglob("*") if path.is_file() and "__pycache__" not in path.parts)
        self.texts = {path.name: path.read_text(encoding="utf-8") for path in self.files}
        self.trees = {name: ast.parse(text) for name, text in self.texts.items()}

    def nodes(self):
        for name, tree in self.trees.items():
            for node in ast.walk(tree):
                yield f"{name}:{getattr(node, 'lineno', 0)}", node

    def test_plain_files_alone(self):
        self.assertIn("__init__.py", self.texts)
        for path in self.files:
            self.assertRegex(path.name, r"\A(__init__|__main__|[a-z][a-z0-9_]*)\.py\Z")
            self.assertNotIn(path.stem, dir(builtins))

    def test_signs_and_sizes(self):
        for name, text in self.texts.items():
            self.assertIsNone(re.search(r"[^\n -~]", text), name)
            self.assertLessEqual(len(text.splitlines()), 400, name)
            self.assertLessEqual(max(len(line) for line in text.splitlines()), 120, name)
        for where, node in self.nodes():
            if isinstance(node, ast.FunctionDef):
                self.assertLessEqual(node.end_lineno - node.lineno + 1, 40, where)

    def test_words_that_stand_nowhere(self):
        for name, text in self.texts.items():
            self.assertEqual(WORDS_NOWHERE & set(re.findall(r"\w+", text)), set(), name)
            self.assertIsNone(re.search("dataclass|overload|contextmanager", text), name)

    def test_imports_from_the_package_alone(self):
        for where, node in self.nodes():
            if isinstance(node, ast.ImportFrom):
                self.assertEqual(node.level, 0, where)
                self.assertRegex(node.module, r"\Aposthouses\.[a-z_0-9]+\Z", where)
                defined = self.trees[node.module.split(".")[1] + ".py"].body
                for alias in node.names:
                    self.assertIn(alias.name, [getattr(there, "name", None) for there in defined], where)

    def test_forms(self):
        for where, node in self.nodes():
            self.assertIsInstance(node, FORMS, where)
            if isinstance(node, (ast.For, ast.While)):
                self.assertEqual(node.orelse, [], where)
            elif isinstance(node, ast.Assign):
                self.assertEqual(len(node.targets), 1, where)
            elif isinstance(node, ast.Try):
                self.assertEqual(node.finalbody, [], where)
            elif isinstance(node, ast.ListComp):
                self.assertEqual(len(node.generators), 1, where)
                self.assertLessEqual(len(node.generators[0].ifs), 1, where)
            elif isinstance(node, ast.Constant):
                self.assertIsInstance(node.value, (int, str, type(None)), where)
            elif isinstance(node, (ast.FunctionDef, ast.ClassDef)):
                self.assertEqual(node.decorator_list, [], where)
            elif isinstance(node, ast.arguments):
                self.assertEqual((node.vararg, node.kwarg, node.kwonlyargs, node.posonlyargs), (None, None, [], []))

    def test_class_bodies(self):
        for where, node in self.nodes():
            if isinstance(node, ast.ClassDef):
                self.assertLessEqual(len(node.bases), 1, where)
                for part in node.body:
                    self.assertIsInstance(part, (ast.FunctionDef, ast.Pass), where)

    def test_names(self):
        for name, tree in self.trees.items():
            bound = bound_names(tree)
            for each in bound - UNDERSCORED_METHODS:
                self.assertRegex(each, r"\A[A-Za-z][A-Za-z0-9_]*\Z", name)
                self.assertNotIn(each, NAMES_NOWHERE, name)
                self.assertNotIn(each, dir(builtins), name)
            read = {node.id for node in ast.walk(tree) if isinstance(node, ast.Name)}
            self.assertEqual(read - bound - BUILT_IN, set(), name)

    def test_methods(self):
        own = methods_of_package(self.trees.values())
        for where, node in self.nodes():
            if isinstance(node, ast.Attribute):
                self.assertNotIn(node.attr, NAMES_NOWHERE, where)
            if isinstance(node, ast.Call) and isinstance(node.func, ast.Attribute):
                self.assertIn(node.func.attr, own | METHODS_OF_PYTHON, where)

    def test_no_value_is_called_like_a_method(self):
        values = values_of_objects(self.trees.values())
        self.assertEqual(values & methods_of_package(self.trees.values()), set())
        kinds = (str, int, list, tuple, dict, set, frozenset, bytes)
        self.assertEqual({value for value in values if any(hasattr(kind, value) for kind in kinds)}, set())

    def test_no_local_is_called_like_an_import_or_a_class(self):
        for name, tree in self.trees.items():
            classes = {node.name for node in tree.body if isinstance(node, ast.ClassDef)}
            self.assertEqual(names_within_defs(tree) & (imported_names(tree) | classes), set(), name)

    def test_each_name_once_at_the_top(self):
        for name, tree in self.trees.items():
            names = [node.name for node in tree.body if isinstance(node, (ast.FunctionDef, ast.ClassDef))]
            names += list(imported_names(tree))
            self.assertEqual(sorted(names), sorted(set(names)), name)

    def test_no_two_files_draw_from_one_another(self):
        draws = {name: {node.module.split(".")[1] + ".py" for node in ast.walk(tree)
                        if isinstance(node, ast.ImportFrom)} for name, tree in self.trees.items()}
        while draws:
            free = [name for name in draws if not draws[name] & set(draws)]
            self.assertNotEqual(free, [], draws)
            for name in free:
                del draws[name]

    def test_is_stands_beside_none_true_and_false_alone(self):
        for where, node in self.nodes():
            if isinstance(node, ast.Compare):
                for sign, right in zip(node.ops, node.comparators):
                    if isinstance(sign, (ast.Is, ast.IsNot)):
                        self.assertIsInstance(right, ast.Constant, where)
                        self.assertIn(right.value, (None, True, False), where)

    def test_walked_at_once(self):
        walked = {"zip", "enumerate", "reversed", "range", "items", "keys", "values"}
        walkers = {"list", "tuple", "dict", "sorted", "sum", "any", "all", "enumerate", "zip", "min", "max", "join"}
        right = set()
        for where, node in self.nodes():
            if isinstance(node, (ast.For, ast.comprehension)):
                right.add(id(node.iter))
            elif is_called(node, walkers) and node.args:
                right.add(id(node.args[0]))
        for where, node in self.nodes():
            if is_called(node, walked):
                self.assertIn(id(node), right, where)

    def test_no_try_but_for_errors_of_the_package(self):
        own = {node.name for node in self.trees["errors.py"].body if isinstance(node, ast.ClassDef)}
        for where, node in self.nodes():
            if isinstance(node, ast.ExceptHandler):
                self.assertIsInstance(node.type, ast.Name, where)
                self.assertIn(node.type.id, own, where)


if __name__ == "__main__":
    unittest.main()
