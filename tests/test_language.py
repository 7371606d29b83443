"""Some of the rules of the package's part of Python, by the tree of each file: files, signs, size, imports, forms, names,
and where walks, sets and keywords stand."""

import ast
import builtins
import re
import unittest
from pathlib import Path

PACKAGE = Path(__file__).resolve().parent.parent / "tintties"

BUILT_IN = set("""
    len range enumerate zip min max sum abs sorted reversed int str bool list tuple dict set frozenset isinstance ord
    repr any all divmod Exception ValueError TypeError KeyError IndexError LookupError ZeroDivisionError
    ArithmeticError OverflowError RuntimeError NotImplementedError AttributeError StopIteration
""".split())
METHODS = set("""
    append clear copy count endswith extend find get index insert isalnum isalpha isdigit islower isspace isupper
    items join keys ljust lower lstrip partition pop remove replace reverse rfind rjust rpartition rsplit rstrip
    setdefault split splitlines startswith strip update upper values zfill bit_length
""".split())
UNDERSCORED = {"__init__", "__eq__", "__repr__", "__str__", "__len__"}
WORDS_OUT = re.compile(
    r"\b(type|typing|typing_extensions|enum|Enum|IntEnum|StrEnum|Flag|IntFlag|Generic|Protocol|ABC|ABCMeta|namedtuple"
    r"|NamedTuple|TypedDict|TYPE_CHECKING|abstractmethod)\b|dataclass|overload|contextmanager"
)
NAMES_OUT = set("""
    register mro elements open input version_info with_traceback add_note attrgetter breakpoint builtins compile copyright
    credits delattr dir eval exec exit gc getattr globals hasattr help id importlib license locals methodcaller os quit
    setattr super type vars sys __name__
""".split())
VALUES = {"count", "index", "title", "find", "get", "join", "lower", "upper", "split", "strip", "copy", "add"}
OF_PYTHON_S_OWN = {name for kind in (str, int, list, tuple, dict, set, bytes) for name in dir(kind)}
STATEMENTS = (
    ast.Module, ast.FunctionDef, ast.ClassDef, ast.Return, ast.Assign, ast.AugAssign, ast.For, ast.While, ast.If,
    ast.Raise, ast.Try, ast.ImportFrom, ast.Expr, ast.Pass, ast.Break, ast.Continue,
)
EXPRESSIONS = (
    ast.BoolOp, ast.BinOp, ast.UnaryOp, ast.Lambda, ast.IfExp, ast.Dict, ast.Set, ast.ListComp, ast.Compare, ast.Call,
    ast.FormattedValue, ast.JoinedStr, ast.Constant, ast.Attribute, ast.Subscript, ast.Name, ast.List, ast.Tuple,
    ast.Slice,
)
REST = (
    ast.expr_context, ast.boolop, ast.operator, ast.unaryop, ast.cmpop, ast.comprehension, ast.ExceptHandler,
    ast.arguments, ast.arg, ast.keyword, ast.alias,
)


WALKERS = {"zip", "enumerate", "reversed", "range"}
WALKING_METHODS = {"items", "keys", "values"}
WALKED_BY = {"list", "tuple", "dict", "sorted", "sum", "any", "all", "enumerate", "zip"}
KEYWORDS = {
    "sorted": {"key", "reverse"}, "min": {"key", "default"}, "max": {"key", "default"}, "sum": {"start"},
    "enumerate": {"start"}, "zip": {"strict"},
}


def files():
    return sorted(PACKAGE.glob("*.py"))


def bound_names(tree):
    found = set()
    for node in ast.walk(tree):
        if isinstance(node, (ast.FunctionDef, ast.ClassDef)):
            found.add(node.name)
        elif isinstance(node, ast.arg):
            found.add(node.arg)
        elif isinstance(node, ast.Name) and isinstance(node.ctx, ast.Store):
            found.add(node.id)
        elif isinstance(node, ast.alias):
            found.add(node.asname or node.name)
        elif isinstance(node, ast.ExceptHandler) and node.name:
            found.add(node.name)
    return found


def own_methods(trees):
    return {
        part.name
        for tree in trees for node in ast.walk(tree) if isinstance(node, ast.ClassDef)
        for part in node.body if isinstance(part, ast.FunctionDef)
    }


def called(node):
    """The plain name that is called, or None."""
    return node.func.id if isinstance(node, ast.Call) and isinstance(node.func, ast.Name) else None


def is_walk(node):
    if called(node) in WALKERS:
        return True
    return isinstance(node, ast.Call) and isinstance(node.func, ast.Attribute) and node.func.attr in WALKING_METHODS


def is_walked_at_once(node, parent):
    if isinstance(parent, (ast.For, ast.comprehension)):
        return parent.iter is node
    if called(parent) in ("min", "max"):
        return parent.args == [node]
    if isinstance(parent, ast.Call) and isinstance(parent.func, ast.Attribute) and parent.func.attr == "join":
        return isinstance(parent.func.value, ast.Constant)
    return called(parent) in WALKED_BY and parent.args[0] is node


def is_set_in_place(parent):
    if isinstance(parent, ast.Compare):
        return all(isinstance(sign, (ast.In, ast.NotIn, ast.Eq, ast.NotEq)) for sign in parent.ops)
    if isinstance(parent, ast.BinOp):
        return isinstance(parent.op, (ast.Sub, ast.BitAnd, ast.BitOr, ast.BitXor))
    return called(parent) in ("sorted", "len") and not parent.keywords


class LanguageTest(unittest.TestCase):
    @classmethod
    def setUpClass(cls):
        cls.texts = {path.name: path.read_text(encoding="utf-8") for path in files()}
        cls.trees = {name: ast.parse(text) for name, text in cls.texts.items()}

    def nodes(self):
        for name, tree in self.trees.items():
            for node in ast.walk(tree):
                yield (name, getattr(node, "lineno", 0)), node

    def test_files(self):
        self.assertIn("__init__.py", self.texts)
        for path in PACKAGE.iterdir():
            if path.name != "__pycache__":
                self.assertRegex(path.name, r"^(__init__|[a-z][a-z0-9_]*)\.py$")

    def test_signs_and_words(self):
        for name, text in self.texts.items():
            self.assertRegex(text, r"\A[ -~\n]*\Z", name)
            self.assertIsNone(WORDS_OUT.search(text), name)

    def test_size(self):
        for name, text in self.texts.items():
            lines = text.split("\n")
            self.assertLessEqual(len(lines), 400, name)
            self.assertLessEqual(max(len(line) for line in lines), 120, name)
        for where, node in self.nodes():
            if isinstance(node, ast.FunctionDef):
                self.assertLessEqual(node.end_lineno - node.lineno + 1, 40, where)

    def test_top_of_a_module(self):
        for name, tree in self.trees.items():
            bound = []
            for place, node in enumerate(tree.body):
                if place == 0 and isinstance(node, ast.Expr):
                    self.assertIsInstance(ast.literal_eval(node.value), str)
                    continue
                self.assertIsInstance(node, (ast.ImportFrom, ast.FunctionDef, ast.ClassDef, ast.Assign), name)
                if isinstance(node, (ast.FunctionDef, ast.ClassDef)):
                    bound.append(node.name)
                elif isinstance(node, ast.Assign):
                    bound.append(node.targets[0].id)
            self.assertEqual(len(set(bound)), len(bound), name)

    def test_imports(self):
        drawn = {}
        for name, tree in self.trees.items():
            drawn[name] = set()
            for node in ast.walk(tree):
                if isinstance(node, ast.ImportFrom):
                    self.assertEqual(node.level, 0, name)
                    self.assertRegex(node.module, r"^tintties\.[a-z_]+$")
                    source = node.module.split(".")[1] + ".py"
                    defined = bound_names(ast.Module([
                        part for part in self.trees[source].body if not isinstance(part, ast.ImportFrom)
                    ], []))
                    for alias in node.names:
                        self.assertIn(alias.name, defined, name)
                    drawn[name].add(source)
        while drawn:
            free = [name for name in drawn if not drawn[name] & set(drawn)]
            self.assertTrue(free, f"these draw from one another: {sorted(drawn)}")
            drawn = {name: sources for name, sources in drawn.items() if name not in free}

    def test_forms(self):
        for where, node in self.nodes():
            self.assertIsInstance(node, STATEMENTS + EXPRESSIONS + REST, where)
            self.assertNotIsInstance(node, (ast.Div, ast.MatMult), where)
            if isinstance(node, ast.Constant):
                self.assertIn(type(node.value), (int, str, bool, type(None)), where)
            if isinstance(node, ast.Assign):
                self.assertEqual(len(node.targets), 1, where)
            if isinstance(node, (ast.For, ast.While)):
                self.assertEqual(node.orelse, [], where)
            if isinstance(node, ast.Try):
                self.assertEqual(node.finalbody, [], where)
            if isinstance(node, ast.ListComp):
                self.assertEqual(len(node.generators), 1, where)
                self.assertLessEqual(len(node.generators[0].ifs), 1, where)
            if isinstance(node, ast.Expr) and where[1] != 1:
                self.assertIsInstance(node.value, ast.Call, where)
            if isinstance(node, ast.Compare):
                for operator, right in zip(node.ops, node.comparators):
                    if isinstance(operator, (ast.Is, ast.IsNot)):
                        self.assertIsInstance(right, ast.Constant, where)
                        self.assertIn(type(right.value), (bool, type(None)), where)

    def parents(self):
        for where, parent in self.nodes():
            for node in ast.iter_child_nodes(parent):
                yield where, node, parent

    def test_walked_at_once(self):
        for where, node, parent in self.parents():
            if is_walk(node):
                self.assertTrue(is_walked_at_once(node, parent), where)

    def test_sets(self):
        for where, node, parent in self.parents():
            self.assertNotIsInstance(node, ast.Set, where)
            if called(node) in ("set", "frozenset"):
                self.assertTrue(is_set_in_place(parent), where)

    def test_keywords_of_python_s_own(self):
        for where, node in self.nodes():
            if called(node) in BUILT_IN:
                self.assertLessEqual({word.arg for word in node.keywords}, KEYWORDS.get(called(node), set()), where)

    def test_no_local_like_a_name_of_the_top(self):
        for name, tree in self.trees.items():
            top = {node.name for node in tree.body if isinstance(node, (ast.FunctionDef, ast.ClassDef))}
            top |= {alias.asname or alias.name for node in tree.body if isinstance(node, ast.ImportFrom) for alias in node.names}
            top |= {node.targets[0].id for node in tree.body if isinstance(node, ast.Assign)}
            for part in tree.body:
                if isinstance(part, (ast.FunctionDef, ast.ClassDef)):
                    local = {node.arg for node in ast.walk(part) if isinstance(node, ast.arg)}
                    local |= {
                        node.id for node in ast.walk(part)
                        if isinstance(node, ast.Name) and isinstance(node.ctx, ast.Store)
                    }
                    self.assertEqual(local & top, set(), name)

    def test_methods_and_values(self):
        methods = own_methods(self.trees.values())
        for where, node in self.nodes():
            if isinstance(node, ast.Attribute) and isinstance(node.ctx, ast.Store):
                self.assertNotIn(node.attr, methods, where)
            if isinstance(node, ast.ClassDef):
                names = [part.name for part in node.body if isinstance(part, ast.FunctionDef)]
                self.assertEqual(len(set(names)), len(names), where)

    def test_own_methods_and_values(self):
        for name in own_methods(self.trees.values()) - UNDERSCORED:
            self.assertNotIn(name, OF_PYTHON_S_OWN - METHODS - {"add", "discard"})
        for where, node in self.nodes():
            if isinstance(node, ast.Attribute) and isinstance(node.ctx, ast.Store):
                self.assertNotIn(node.attr, OF_PYTHON_S_OWN - VALUES | {"args"}, where)
            if isinstance(node, ast.FunctionDef) and node.name == "__init__":
                self.assertFalse([part for part in ast.walk(node) if isinstance(part, ast.Return)], where)

    def test_functions_and_classes(self):
        for where, node in self.nodes():
            if isinstance(node, ast.arguments):
                self.assertFalse(node.vararg or node.kwarg or node.kwonlyargs or node.posonlyargs, where)
            if isinstance(node, (ast.FunctionDef, ast.ClassDef)):
                self.assertEqual(node.decorator_list, [], where)
            if isinstance(node, ast.ClassDef):
                self.assertLessEqual(len(node.bases), 1, where)
                self.assertEqual(node.keywords, [], where)
                for part in node.body:
                    self.assertIsInstance(part, (ast.FunctionDef, ast.Pass), where)

    def test_names(self):
        methods = own_methods(self.trees.values())
        for name, tree in self.trees.items():
            bound = bound_names(tree)
            for called in sorted(bound - UNDERSCORED):
                self.assertRegex(called, r"^[A-Za-z][A-Za-z0-9_]*$", name)
            self.assertEqual((bound - methods) & set(dir(builtins)), set(), name)
            self.assertEqual(bound & NAMES_OUT, set(), name)
            for node in ast.walk(tree):
                if isinstance(node, ast.Name):
                    self.assertIn(node.id, bound | BUILT_IN, (name, node.lineno))
                if isinstance(node, ast.Call) and isinstance(node.func, ast.Attribute):
                    self.assertIn(node.func.attr, METHODS | methods, (name, node.lineno))


if __name__ == "__main__":
    unittest.main()
