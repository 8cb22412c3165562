"""The rules of the language that a reading of the package's files can hold it to."""

import ast
import builtins
import re
import unittest
from pathlib import Path

FOLDER = Path(__file__).resolve().parent.parent / "wayposts"
FILES = sorted(FOLDER.rglob("*.py"))

BUILT_IN = set(
    "len range enumerate zip min max sum abs sorted reversed int str bool list tuple dict set frozenset isinstance ord "
    "repr any all divmod Exception ValueError TypeError KeyError IndexError LookupError ZeroDivisionError "
    "ArithmeticError OverflowError RuntimeError NotImplementedError AttributeError StopIteration".split()
)
METHODS = set(
    "append clear copy count endswith extend find get index insert isalnum isalpha isdigit islower isspace isupper items "
    "join keys ljust lower lstrip partition pop remove replace reverse rfind rjust rpartition rsplit rstrip setdefault "
    "split splitlines startswith strip update upper values zfill bit_length".split()
)
NOT_USED = set(
    "register mro elements open input version_info with_traceback add_note attrgetter breakpoint builtins compile "
    "copyright credits delattr dir eval exec exit gc getattr globals hasattr help id importlib license locals "
    "methodcaller os quit setattr super type vars sys format format_map".split()
)
NO_WORDS = re.compile(
    r"\b(type|typing|typing_extensions|enum|Enum|IntEnum|StrEnum|Flag|IntFlag|Generic|Protocol|ABC|ABCMeta|namedtuple|"
    r"NamedTuple|TypedDict|TYPE_CHECKING|abstractmethod)\b|dataclass|overload|contextmanager"
)
NODES = (
    ast.Module, ast.FunctionDef, ast.ClassDef, ast.arguments, ast.arg, ast.ImportFrom, ast.alias, ast.Assign,
    ast.AugAssign, ast.If, ast.While, ast.For, ast.Return, ast.Break, ast.Continue, ast.Pass, ast.Raise, ast.Try,
    ast.ExceptHandler, ast.Expr, ast.Call, ast.keyword, ast.Name, ast.Attribute, ast.Subscript, ast.Slice, ast.Constant,
    ast.List, ast.Tuple, ast.Dict, ast.ListComp, ast.comprehension, ast.BinOp, ast.UnaryOp, ast.BoolOp, ast.Compare,
    ast.IfExp, ast.Lambda, ast.JoinedStr, ast.FormattedValue, ast.expr_context, ast.operator, ast.unaryop, ast.boolop,
    ast.cmpop,
)


def nodes(path):
    return list(ast.walk(ast.parse(path.read_text(encoding="ascii"))))


def bound_names(node):
    """The names that a node binds."""
    if isinstance(node, (ast.FunctionDef, ast.ClassDef)):
        return [node.name]
    if isinstance(node, ast.arg):
        return [node.arg]
    if isinstance(node, ast.Name) and isinstance(node.ctx, ast.Store):
        return [node.id]
    return []


def own_methods():
    return {
        node.name for path in FILES for top in nodes(path) if isinstance(top, ast.ClassDef)
        for node in top.body if isinstance(node, ast.FunctionDef)
    }


def own_values():
    return {
        node.attr for path in FILES for node in nodes(path)
        if isinstance(node, ast.Attribute) and isinstance(node.ctx, ast.Store)
    }


def called_name(call):
    """The name that a call goes by, of a function or a method."""
    return getattr(call.func, "id", getattr(call.func, "attr", None))


class Language(unittest.TestCase):
    def each(self, check):
        self.assertIn(FOLDER / "places.py", FILES)
        for path in FILES:
            for node in nodes(path):
                with self.subTest(path=path.name, row=getattr(node, "lineno", 0)):
                    check(node)

    def test_files(self):
        self.assertIn(FOLDER / "__init__.py", FILES)
        for path in FOLDER.iterdir():
            if path.name != "__pycache__":
                self.assertRegex(path.name, r"^(__init__|[a-z][a-z0-9_]*)\.py$")
                self.assertNotIn(path.stem, dir(builtins))

    def test_signs_and_sizes(self):
        for path in FILES:
            text = path.read_text(encoding="ascii")
            with self.subTest(path=path.name):
                self.assertRegex(text, r"\A[ -~\n]*\Z")
                self.assertIsNone(NO_WORDS.search(text))
                self.assertLessEqual(len(text.splitlines()), 400)
                self.assertLessEqual(max(len(row) for row in text.splitlines()), 120)

    def test_functions(self):
        def check(node):
            if isinstance(node, ast.FunctionDef):
                self.assertLessEqual(node.end_lineno - node.lineno + 1, 40)
                self.assertEqual(node.decorator_list, [])
                self.assertEqual([node.args.vararg, node.args.kwarg, node.args.kwonlyargs], [None, None, []])
        self.each(check)

    def test_statements_and_expressions(self):
        def check(node):
            self.assertIsInstance(node, NODES)
            self.assertNotIsInstance(node, (ast.Div, ast.MatMult))
            if isinstance(node, ast.Constant):
                self.assertIn(type(node.value), (int, str, bool, type(None)))
            if isinstance(node, ast.ListComp):
                self.assertEqual(len(node.generators), 1)
                self.assertLessEqual(len(node.generators[0].ifs), 1)
            if isinstance(node, (ast.For, ast.While)):
                self.assertEqual(node.orelse, [])
            if isinstance(node, ast.Assign):
                self.assertEqual(len(node.targets), 1)
            if isinstance(node, ast.Compare) and any(isinstance(sign, (ast.Is, ast.IsNot)) for sign in node.ops):
                self.assertIsInstance(node.comparators[0], ast.Constant)
        self.each(check)

    def test_names(self):
        def check(node):
            for name in bound_names(node):
                if name != "__init__":
                    self.assertRegex(name, r"^[A-Za-z][A-Za-z0-9_]*$")
                    self.assertNotIn(name, dir(builtins))
                    self.assertNotIn(name, NOT_USED)
            if isinstance(node, ast.Name):
                self.assertNotIn(node.id, NOT_USED)
                self.assertFalse(node.id in dir(builtins) and node.id not in BUILT_IN, node.id)
        self.each(check)

    def test_methods(self):
        own = own_methods()

        def check(node):
            if isinstance(node, ast.Attribute):
                self.assertNotIn(node.attr, NOT_USED)
            if isinstance(node, ast.Call) and isinstance(node.func, ast.Attribute):
                self.assertIn(node.func.attr, METHODS | own)
        self.each(check)

    def test_imports(self):
        own = {path.stem for path in FILES}

        def check(node):
            if isinstance(node, ast.ImportFrom):
                self.assertEqual(node.level, 0)
                self.assertIn(node.module, {"wayposts." + name for name in own})
                self.assertNotIn("*", [alias.name for alias in node.names])
        self.each(check)

    def test_imports_are_drawn_from_where_they_are_defined(self):
        drawn = {}
        for path in FILES:
            drawn[path.stem] = set()
            for node in nodes(path):
                if isinstance(node, ast.ImportFrom):
                    source = node.module.split(".")[1]
                    drawn[path.stem].add(source)
                    top = ast.parse((FOLDER / (source + ".py")).read_text(encoding="ascii")).body
                    names = {name for row in top for part in [row] + list(getattr(row, "targets", []))
                             for name in bound_names(part)}
                    self.assertLessEqual({alias.name for alias in node.names}, names)
                    self.assertEqual({alias.asname for alias in node.names}, {None})
        # No two draw from one another: one that draws from none left is always found.
        while drawn:
            free = [name for name in drawn if not drawn[name] & set(drawn)]
            self.assertNotEqual(free, [], drawn)
            del drawn[free[0]]

    def test_locals_are_not_called_like_imports_and_classes(self):
        for path in FILES:
            found = nodes(path)
            taken = {alias.name for node in found if isinstance(node, ast.ImportFrom) for alias in node.names}
            taken |= {node.name for node in found if isinstance(node, ast.ClassDef)}
            for node in found:
                if isinstance(node, (ast.arg, ast.Name)):
                    with self.subTest(path=path.name, row=node.lineno):
                        self.assertEqual(set(bound_names(node)) & taken, set())

    def test_methods_are_called_where_they_stand(self):
        methods, values = own_methods(), own_values()
        self.assertEqual(methods & values, set())
        for name in values:
            self.assertFalse(any(hasattr(kind, name) for kind in (str, int, list, dict, set, bytes)), name)
        for path in FILES:
            found = nodes(path)
            called = {id(node.func) for node in found if isinstance(node, ast.Call)}
            for node in found:
                if isinstance(node, ast.Attribute) and node.attr in METHODS | methods:
                    with self.subTest(path=path.name, row=node.lineno):
                        self.assertIn(id(node), called)

    def test_walked_at_once(self):
        walked = {"zip", "enumerate", "reversed", "range", "items", "keys", "values"}
        takers = {"list", "tuple", "dict", "sorted", "sum", "any", "all", "enumerate", "zip", "min", "max"}
        for path in FILES:
            found = nodes(path)
            spots = {id(node.iter) for node in found if isinstance(node, (ast.For, ast.comprehension))}
            spots |= {id(node.args[0]) for node in found
                      if isinstance(node, ast.Call) and node.args and called_name(node) in takers}
            for node in found:
                if isinstance(node, ast.Call) and called_name(node) in walked:
                    with self.subTest(path=path.name, row=node.lineno):
                        self.assertIn(id(node), spots)

    def test_what_the_program_has_no_need_of(self):
        # Narrower than the rules ask, and plain to check.
        def check(node):
            self.assertNotIsInstance(node, (ast.Pow, ast.Lambda, ast.Try, ast.JoinedStr, ast.keyword, ast.Raise, ast.Set))
            if isinstance(node, ast.Name):
                self.assertNotIn(node.id, ("set", "frozenset", "isinstance", "divmod"))
            if isinstance(node, ast.Constant) and isinstance(node.value, str):
                self.assertNotRegex(node.value, r"[\\%]")
            if isinstance(node, ast.FunctionDef):
                self.assertIsNone(node.returns)
            if isinstance(node, ast.FunctionDef) and node.name == "__init__":
                self.assertFalse(any(isinstance(part, ast.Return) for part in ast.walk(node)))
            if isinstance(node, ast.arg):
                self.assertIsNone(node.annotation)
            if isinstance(node, ast.ClassDef):
                self.assertEqual([node.bases, node.decorator_list], [[], []])
                self.assertTrue(all(isinstance(part, ast.FunctionDef) for part in node.body))
                names = [part.name for part in node.body]
                self.assertEqual(len(names), len(set(names)))
        self.each(check)

    def test_the_top_of_a_file(self):
        for path in FILES:
            names = []
            for node in ast.parse(path.read_text(encoding="ascii")).body:
                with self.subTest(path=path.name, row=node.lineno):
                    self.assertIsInstance(node, (ast.Expr, ast.ImportFrom, ast.Assign, ast.FunctionDef, ast.ClassDef))
                    if isinstance(node, ast.Assign):
                        ast.literal_eval(node.value)
                        names.append(node.targets[0].id)
            self.assertEqual(len(names), len(set(names)))


if __name__ == "__main__":
    unittest.main()
