"""The form of the package's own files, as far as it can be seen from their trees and signs."""

import ast
import builtins
import pathlib
import re
import unittest

PACKAGE = pathlib.Path(__file__).resolve().parent.parent / "turnedpipes"

STATEMENTS = (
    ast.Module, ast.FunctionDef, ast.ClassDef, ast.ImportFrom, ast.alias, ast.arguments, ast.arg, ast.Assign,
    ast.AugAssign, ast.If, ast.While, ast.For, ast.Return, ast.Break, ast.Continue, ast.Pass, ast.Raise, ast.Try,
    ast.ExceptHandler, ast.Expr,
)
EXPRESSIONS = (
    ast.Constant, ast.Name, ast.Load, ast.Store, ast.List, ast.Tuple, ast.Dict, ast.BinOp, ast.UnaryOp, ast.Compare,
    ast.BoolOp, ast.IfExp, ast.Call, ast.Attribute, ast.Subscript, ast.Slice, ast.ListComp, ast.comprehension,
    ast.JoinedStr, ast.FormattedValue, ast.Lambda, ast.keyword,
)
OPERATORS = (
    ast.Add, ast.Sub, ast.Mult, ast.FloorDiv, ast.Mod, ast.Pow, ast.BitAnd, ast.BitOr, ast.BitXor, ast.LShift,
    ast.RShift, ast.Invert, ast.USub, ast.UAdd, ast.Not, ast.And, ast.Or, ast.cmpop,
)
OWN_NAMES = (
    "len range enumerate zip min max sum abs sorted reversed int str bool list tuple dict set isinstance ord repr any "
    "all divmod Exception ValueError KeyError IndexError LookupError ZeroDivisionError StopIteration"
).split()
METHODS = (
    "append clear copy count endswith extend find get index insert isalnum isalpha isdigit islower isspace isupper "
    "items join keys ljust lower lstrip partition pop remove replace reverse rfind rjust rpartition rsplit rstrip "
    "setdefault split splitlines startswith strip update upper values zfill bit_length"
).split()
WORDS = (
    "type typing typing_extensions enum Enum IntEnum StrEnum Flag IntFlag Generic Protocol ABC ABCMeta namedtuple "
    "NamedTuple TypedDict TYPE_CHECKING abstractmethod"
).split()
CHANGES = "append clear extend insert pop remove reverse setdefault update".split()


def files():
    return sorted(PACKAGE.glob("*.py"))


def trees():
    return [(path.name, ast.parse(path.read_text(encoding="ascii"))) for path in files()]


def walked():
    return [(name, node) for name, tree in trees() for node in ast.walk(tree)]


def names_of(node):
    if isinstance(node, (ast.FunctionDef, ast.ClassDef)):
        return [node.name]
    if isinstance(node, ast.arg):
        return [node.arg]
    if isinstance(node, ast.Name) and isinstance(node.ctx, ast.Store):
        return [node.id]
    if isinstance(node, ast.Attribute):
        return [node.attr]
    return []


class Language(unittest.TestCase):
    def test_files(self):
        inside = [path for path in PACKAGE.iterdir() if path.name != "__pycache__"]
        self.assertEqual(sorted(inside), files())
        for path in files():
            text = path.read_text(encoding="ascii")
            self.assertIsNotNone(re.fullmatch(r"[a-z][a-z0-9_]*|__init__", path.stem))
            self.assertIsNone(re.search(r"[^ -~\n]", text), path.name)
            self.assertLessEqual(len(text.splitlines()), 400)
            self.assertLessEqual(max(len(line) for line in text.splitlines()), 120)
            self.assertEqual([word for word in WORDS if re.search(rf"\b{word}\b", text)], [], path.name)

    def test_only_what_is_allowed_stands_there(self):
        for name, node in walked():
            self.assertIsInstance(node, STATEMENTS + EXPRESSIONS + OPERATORS, name)
            if isinstance(node, ast.Constant):
                self.assertIn(type(node.value), (int, str, bool, type(None)), name)
            if isinstance(node, ast.Assign):
                self.assertEqual(len(node.targets), 1, name)
                self.assertIsInstance(node.targets[0], (ast.Name, ast.Attribute, ast.Subscript), name)
            if isinstance(node, (ast.For, ast.While)):
                self.assertEqual(node.orelse, [], name)
            if isinstance(node, ast.ListComp):
                self.assertEqual(len(node.generators), 1, name)
                self.assertLessEqual(len(node.generators[0].ifs), 1, name)
            if isinstance(node, ast.Compare) and isinstance(node.ops[0], (ast.Is, ast.IsNot)):
                self.assertIsInstance(node.comparators[0], ast.Constant, name)

    def test_functions_are_small_and_plain(self):
        for name, node in walked():
            if isinstance(node, (ast.FunctionDef, ast.ClassDef)):
                self.assertEqual(node.decorator_list, [], node.name)
            if isinstance(node, ast.FunctionDef):
                self.assertLessEqual(node.end_lineno - node.lineno + 1, 40, node.name)
                given = node.args
                self.assertEqual((given.vararg, given.kwarg, given.kwonlyargs, given.posonlyargs), (None, None, [], []))

    def test_expressions_alone_are_calls(self):
        for name, tree in trees():
            for node in ast.walk(tree):
                if isinstance(node, ast.Expr) and node is not tree.body[0]:
                    self.assertIsInstance(node.value, ast.Call, name)

    def test_names(self):
        for name, node in walked():
            for bound in names_of(node):
                self.assertTrue(bound == "__init__" or re.fullmatch(r"[A-Za-z][A-Za-z0-9_]*", bound), (name, bound))
                if bound != "__init__" and not isinstance(node, ast.Attribute):
                    self.assertFalse(hasattr(builtins, bound), (name, bound))
            if isinstance(node, ast.Name) and hasattr(builtins, node.id):
                self.assertIn(node.id, OWN_NAMES, name)

    def test_imports(self):
        drawn = {}
        for name, tree in trees():
            drawn[name] = []
            bound = [own for node in ast.walk(tree) for own in names_of(node) if not isinstance(node, ast.Attribute)]
            for node in ast.walk(tree):
                if isinstance(node, ast.ImportFrom):
                    self.assertIn(node, tree.body)
                    package, file = node.module.split(".")
                    self.assertEqual((package, node.level), ("turnedpipes", 0))
                    defined = dict(trees())[file + ".py"].body
                    own = [own for part in defined for own in names_of(part) or names_of(getattr(part, "targets", [0])[0])]
                    for alias in node.names:
                        self.assertIn(alias.name, own, name)
                        self.assertIsNone(alias.asname)
                        self.assertNotIn(alias.name, bound, name)
                    drawn[name].append(file + ".py")
        while drawn:
            free = [name for name in drawn if not set(drawn[name]) & set(drawn)]
            self.assertNotEqual(free, [], "files draw from one another")
            drawn = {name: drawn[name] for name in drawn if name not in free}

    def test_top_of_files(self):
        for name, tree in trees():
            self.assertIsInstance(tree.body[0], ast.Expr, name)
            bound = [own for node in tree.body for own in names_of(getattr(node, "targets", [node])[0])]
            self.assertEqual(len(bound), len(set(bound)), name)
            for node in tree.body[1:]:
                self.assertIsInstance(node, (ast.ImportFrom, ast.FunctionDef, ast.ClassDef, ast.Assign), name)

    def test_methods(self):
        classes = [node for name, node in walked() if isinstance(node, ast.ClassDef)]
        own = [part.name for node in classes for part in node.body if isinstance(part, ast.FunctionDef)]
        self.assertEqual(len(own), len(set(own)))
        values = {node.attr for name, node in walked() if isinstance(node, ast.Attribute)}
        for name, node in walked():
            if isinstance(node, ast.Call) and isinstance(node.func, ast.Attribute):
                self.assertIn(node.func.attr, METHODS + own, name)
                values.discard(node.func.attr)
        kinds = (str, int, list, dict, set, bytes)
        for value in sorted(values) + [method for method in own if method != "__init__"]:
            self.assertFalse(any(hasattr(kind, value) for kind in kinds), value)

    def test_what_a_loop_walks_is_not_changed_in_it(self):
        for name, node in walked():
            if isinstance(node, ast.For):
                over = {part.id for part in ast.walk(node.iter) if isinstance(part, ast.Name)}
                for part in ast.walk(node):
                    if isinstance(part, ast.Attribute) and part.attr in CHANGES and isinstance(part.value, ast.Name):
                        self.assertNotIn(part.value.id, over, name)


if __name__ == "__main__":
    unittest.main()
