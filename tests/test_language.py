"""The package keeps to its part of Python: what of the rules can be seen in the code."""

import ast
import builtins
import os
import re
import unittest

HOME = os.path.join(os.path.dirname(os.path.dirname(os.path.abspath(__file__))), "quadnumbers")

STATEMENTS = (ast.Assign, ast.AugAssign, ast.If, ast.While, ast.For, ast.Return, ast.Break, ast.Continue, ast.Pass,
              ast.Raise, ast.Try, ast.Expr, ast.FunctionDef, ast.ClassDef, ast.ImportFrom)
EXPRESSIONS = (ast.BinOp, ast.UnaryOp, ast.BoolOp, ast.Compare, ast.IfExp, ast.Call, ast.Attribute, ast.Subscript,
               ast.Slice, ast.ListComp, ast.JoinedStr, ast.FormattedValue, ast.Constant, ast.Name, ast.List, ast.Tuple,
               ast.Dict, ast.Set, ast.Lambda)
OPERATORS = (ast.Add, ast.Sub, ast.Mult, ast.FloorDiv, ast.Mod, ast.LShift, ast.RShift, ast.BitAnd, ast.BitOr,
             ast.BitXor)
BUILT_IN = """len range enumerate zip min max sum abs sorted reversed int str bool list tuple dict set frozenset isinstance
    ord repr any all divmod Exception ValueError TypeError KeyError IndexError LookupError ZeroDivisionError
    ArithmeticError OverflowError RuntimeError NotImplementedError AttributeError StopIteration""".split()
METHODS = """append clear copy count endswith extend find get index insert isalnum isalpha isdigit islower isspace isupper
    items join keys ljust lower lstrip partition pop remove replace reverse rfind rjust rpartition rsplit rstrip
    setdefault split splitlines startswith strip update upper values zfill bit_length""".split()
WORDS = """type typing typing_extensions enum Enum IntEnum StrEnum Flag IntFlag Generic Protocol ABC ABCMeta namedtuple
    NamedTuple TypedDict TYPE_CHECKING abstractmethod""".split()

UNUSED = """register mro elements open input version_info with_traceback add_note attrgetter breakpoint builtins compile
    copyright credits delattr dir eval exec exit gc getattr globals hasattr help id importlib license locals
    methodcaller os quit setattr super vars sys format format_map""".split()


def files():
    return sorted(name for name in os.listdir(HOME) if name != "__pycache__")


def text_of(name):
    with open(os.path.join(HOME, name), encoding="utf-8", newline="") as file:
        return file.read()


def tree_of(name):
    return ast.parse(text_of(name))


def is_plain(node, defined):
    if isinstance(node, ast.Constant):
        return node.value is None or isinstance(node.value, (bool, int, str))
    if isinstance(node, ast.UnaryOp):
        return isinstance(node.op, ast.USub) and isinstance(node.operand, ast.Constant)
    if isinstance(node, (ast.List, ast.Tuple)):
        return all(is_plain(part, defined) for part in node.elts)
    if isinstance(node, ast.Dict):
        return all(is_plain(part, defined) for part in node.keys + node.values)
    return isinstance(node, ast.Name) and node.id in defined


def bound_names(node):
    if isinstance(node, ast.Name) and isinstance(node.ctx, ast.Store):
        return [node.id]
    if isinstance(node, (ast.FunctionDef, ast.ClassDef)):
        return [node.name]
    return [node.arg] if isinstance(node, ast.arg) else []


def imports_of(name):
    return [node for node in tree_of(name).body if isinstance(node, ast.ImportFrom)]


def drawn_from(name):
    return [node.module.split(".")[1] + ".py" for node in imports_of(name)]


class Files(unittest.TestCase):
    def test_names(self):
        self.assertIn("__init__.py", files())
        for name in files():
            self.assertRegex(name, r"^([a-z][a-z0-9_]*|__init__)\.py$")
            self.assertNotIn(name[:-3], dir(builtins))

    def test_signs_words_and_sizes(self):
        for name in files():
            text = text_of(name)
            self.assertEqual(set(re.findall(r"[^ -~\n]", text)), set(), name)
            self.assertEqual(set(re.findall(r"\w+", text)) & set(WORDS), set(), name)
            self.assertNotRegex(text, "dataclass|overload|contextmanager")
            self.assertLessEqual(len(text.splitlines()), 400, name)
            self.assertLessEqual(max(map(len, text.splitlines())), 120, name)

    def test_imports(self):
        for name in files():
            for node in imports_of(name):
                self.assertEqual((node.level, node.module.split(".")[0]), (0, "quadnumbers"))
                made = [bound for other in tree_of(node.module.split(".")[1] + ".py").body
                        for bound in bound_names(other) + [t.id for t in getattr(other, "targets", [])]]
                for alias in node.names:
                    self.assertIn(alias.name, made)
                    self.assertIsNone(alias.asname)

    def test_no_circles(self):
        left = {name: drawn_from(name) for name in files()}
        while left:
            free = [name for name, drawn in left.items() if not set(drawn) & set(left)]
            self.assertNotEqual(free, [], "files draw from one another: %s" % sorted(left))
            left = {name: drawn for name, drawn in left.items() if name not in free}


class Code(unittest.TestCase):
    def nodes(self):
        for name in files():
            for node in ast.walk(tree_of(name)):
                yield "%s:%s" % (name, getattr(node, "lineno", "")), node

    def test_tops(self):
        for name in files():
            body = tree_of(name).body
            self.assertIsInstance(body[0].value.value, str, name)
            defined, names = [], []
            for node in body[1:]:
                self.assertIsInstance(node, (ast.ImportFrom, ast.FunctionDef, ast.ClassDef, ast.Assign), name)
                if isinstance(node, ast.Assign):
                    self.assertTrue(is_plain(node.value, defined), (name, node.lineno))
                if isinstance(node, ast.FunctionDef):
                    defined.append(node.name)
                names.extend(bound_names(node) + [target.id for target in getattr(node, "targets", [])])
            self.assertEqual(len(names), len(set(names)), name)

    def test_statements(self):
        for at, node in self.nodes():
            if isinstance(node, ast.stmt):
                self.assertIsInstance(node, STATEMENTS, at)
            if isinstance(node, ast.Expr) and node.lineno > 1:
                self.assertIsInstance(node.value, ast.Call, at)
            if isinstance(node, ast.Assign):
                self.assertEqual(len(node.targets), 1, at)
                self.assertNotIsInstance(node.targets[0], (ast.Tuple, ast.List), at)
            if isinstance(node, (ast.For, ast.While)):
                self.assertEqual(node.orelse, [], at)
            if isinstance(node, ast.Try):
                self.assertEqual(node.finalbody, [], at)

    def test_expressions(self):
        for at, node in self.nodes():
            if isinstance(node, ast.expr):
                self.assertIsInstance(node, EXPRESSIONS, at)
            if isinstance(node, ast.operator):
                self.assertIsInstance(node, OPERATORS, at)
            if isinstance(node, ast.Constant):
                self.assertIsInstance(node.value, (int, str, type(None)), at)
            if isinstance(node, ast.ListComp):
                self.assertEqual(len(node.generators), 1, at)
            if isinstance(node, ast.Compare):
                self.assertFalse(any(isinstance(one, (ast.Is, ast.IsNot)) for one in node.ops), at)
            if isinstance(node, ast.Call):
                self.assertEqual(node.keywords, [], at)

    def test_functions(self):
        for at, node in self.nodes():
            if isinstance(node, (ast.FunctionDef, ast.ClassDef)):
                self.assertEqual(node.decorator_list, [], at)
                self.assertLessEqual(node.end_lineno - node.lineno + 1, 40 if isinstance(node, ast.FunctionDef) else 400)
            if isinstance(node, ast.arguments):
                self.assertEqual((node.vararg, node.kwarg, node.kwonlyargs, node.posonlyargs), (None, None, [], []))

    def test_names(self):
        own_methods = [inner.name for at, node in self.nodes() if isinstance(node, ast.ClassDef) for inner in node.body
                       if isinstance(inner, ast.FunctionDef)]
        for at, node in self.nodes():
            for bound in bound_names(node):
                if bound != "__init__":
                    self.assertRegex(bound, "^[A-Za-z][A-Za-z0-9_]*$", at)
                    self.assertNotIn(bound, dir(builtins), at)
            self.assertNotIn(getattr(node, "id", getattr(node, "attr", None)), UNUSED, at)
            if isinstance(node, ast.Name) and node.id in dir(builtins):
                self.assertIn(node.id, BUILT_IN, at)
            if isinstance(node, ast.Call) and isinstance(node.func, ast.Attribute):
                self.assertIn(node.func.attr, METHODS + own_methods, at)

    def test_locals_are_not_called_like_imports_or_classes(self):
        for name in files():
            taken = [alias.name for node in imports_of(name) for alias in node.names]
            taken = taken + [node.name for node in tree_of(name).body if isinstance(node, ast.ClassDef)]
            for inner in ast.walk(tree_of(name)):
                if not isinstance(inner, ast.ClassDef):
                    self.assertEqual(set(bound_names(inner)) & set(taken), set(), name)


if __name__ == "__main__":
    unittest.main()
