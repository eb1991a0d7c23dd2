"""The package keeps to the small part of Python that it is written in, as far as a test can see it."""

import ast
import re
import unittest
from pathlib import Path

PACKAGE = Path(__file__).resolve().parent.parent / "kindspan"

ERRORS = """Exception ValueError TypeError KeyError IndexError LookupError ZeroDivisionError ArithmeticError
OverflowError RuntimeError NotImplementedError AttributeError StopIteration""".split()
BUILTINS = """len range enumerate zip min max sum abs sorted reversed int str bool list tuple dict set frozenset
isinstance ord repr any all divmod""".split() + ERRORS
METHODS = """append clear copy count endswith extend find get index insert isalnum isalpha isdigit islower isspace
isupper items join keys ljust lower lstrip partition pop remove replace reverse rfind rjust rpartition rsplit rstrip
setdefault split splitlines startswith strip update upper values zfill bit_length""".split()
STATEMENTS = (
    ast.Assign, ast.AugAssign, ast.If, ast.While, ast.For, ast.Return, ast.Break, ast.Continue, ast.Pass, ast.Raise,
    ast.Try, ast.Expr, ast.FunctionDef, ast.ClassDef, ast.ImportFrom,
)
EXPRESSIONS = (
    ast.Constant, ast.Name, ast.List, ast.Tuple, ast.Dict, ast.Set, ast.BinOp, ast.UnaryOp, ast.BoolOp, ast.Compare,
    ast.IfExp, ast.Call, ast.Attribute, ast.Subscript, ast.Slice, ast.ListComp, ast.JoinedStr, ast.FormattedValue,
    ast.Lambda,
)
WALKED_AT_ONCE = ("zip", "enumerate", "reversed", "range")
WALKERS = ("list", "tuple", "dict", "sorted", "sum", "any", "all", "enumerate", "zip", "min", "max")
UNUSED_NAMES = """register mro elements open input version_info with_traceback add_note attrgetter breakpoint builtins
compile copyright credits delattr dir eval exec exit gc getattr globals hasattr help id importlib license locals
methodcaller os quit setattr super type vars sys format format_map""".split()
UNUSED_WORDS = """type typing typing_extensions enum Enum IntEnum StrEnum Flag IntFlag Generic Protocol ABC ABCMeta
namedtuple NamedTuple TypedDict TYPE_CHECKING abstractmethod""".split()
DUNDERS = ("__init__", "__eq__", "__repr__", "__str__", "__len__")


def files():
    return sorted(PACKAGE.rglob("*.py"))


def nodes(tree, *sorts):
    return [node for node in ast.walk(tree) if isinstance(node, sorts)]


def functions(tree):
    return nodes(tree, ast.FunctionDef)


class TestLanguage(unittest.TestCase):
    def each(self):
        for path in files():
            text = path.read_text(encoding="utf-8")
            yield path, text, ast.parse(text)

    def test_files(self):
        self.assertTrue((PACKAGE / "__init__.py").is_file())
        for path in PACKAGE.rglob("*"):
            if path.name == "__pycache__" or path.parent.name == "__pycache__":
                continue
            self.assertRegex(path.name, r"^[a-z][a-z0-9_]*\.py$|^__(init|main)__\.py$")
            self.assertNotRegex(path.name, r"^test")

    def test_signs_and_sizes(self):
        for path, text, tree in self.each():
            self.assertRegex(text, r"\A[ -~\n]*\Z")
            self.assertLessEqual(len(text.split("\n")), 400)
            self.assertLessEqual(max(len(line) for line in text.split("\n")), 120)
            for node in functions(tree):
                self.assertLessEqual(node.end_lineno - node.lineno + 1, 40, node.name)

    def test_words(self):
        for path, text, tree in self.each():
            words = re.findall(r"[A-Za-z_0-9]+", text)
            self.assertEqual([word for word in words if word in UNUSED_WORDS], [])
            self.assertNotRegex(text, "dataclass|overload|contextmanager")

    def test_statements_and_expressions(self):
        for path, text, tree in self.each():
            for node in nodes(tree, ast.stmt):
                self.assertIsInstance(node, STATEMENTS, node)
            for node in nodes(tree, ast.expr):
                self.assertIsInstance(node, EXPRESSIONS, ast.unparse(node))
            for node in nodes(tree, ast.Assign):
                self.assertEqual(len(node.targets), 1)
            for node in nodes(tree, ast.While, ast.For):
                self.assertEqual(node.orelse, [])
            for node in nodes(tree, ast.Try):
                self.assertEqual(node.finalbody, [])
            for node in nodes(tree, ast.ListComp):
                self.assertEqual(len(node.generators), 1)
                self.assertLessEqual(len(node.generators[0].ifs), 1)
            for node in nodes(tree, ast.FormattedValue):
                self.assertIsInstance(node.value, ast.Name)
            for node in nodes(tree, ast.Div, ast.MatMult, ast.AnnAssign):
                self.fail(ast.dump(node))

    def test_what_stands_by_itself_is_a_call_or_a_docstring(self):
        for path, text, tree in self.each():
            for node in nodes(tree, ast.Expr):
                self.assertTrue(node is tree.body[0] or isinstance(node.value, ast.Call), ast.unparse(node))

    def test_constants(self):
        for path, text, tree in self.each():
            for node in nodes(tree, ast.Constant):
                self.assertTrue(node.value is None or type(node.value) in (int, str, bool), node.value)
                if isinstance(node.value, str):
                    self.assertNotIn("%", node.value)

    def test_is_stands_beside_none_and_truths(self):
        for path, text, tree in self.each():
            for node in nodes(tree, ast.Compare):
                for op, right in zip(node.ops, node.comparators):
                    if isinstance(op, (ast.Is, ast.IsNot)):
                        self.assertIsInstance(right, ast.Constant)

    def test_functions_and_classes(self):
        for path, text, tree in self.each():
            for node in functions(tree):
                self.assertEqual((node.args.vararg, node.args.kwarg, node.args.kwonlyargs), (None, None, []))
                self.assertEqual(node.decorator_list, [])
            for node in nodes(tree, ast.ClassDef):
                self.assertIn(node, tree.body)
                self.assertEqual((node.decorator_list, node.keywords), ([], []))
                self.assertLessEqual(len(node.bases), 1)
                for inner in node.body:
                    self.assertIsInstance(inner, (ast.FunctionDef, ast.Pass))

    def test_the_top_of_a_file(self):
        for path, text, tree in self.each():
            self.assertIsNotNone(ast.get_docstring(tree))
            for node in tree.body[1:]:
                self.assertIsInstance(node, (ast.ImportFrom, ast.FunctionDef, ast.ClassDef, ast.Assign))
                if isinstance(node, ast.Assign):
                    for inner in ast.walk(node.value):
                        self.assertNotIsInstance(inner, (ast.Call, ast.Set, ast.ListComp))
                        self.assertFalse(isinstance(inner, (ast.List, ast.Dict)) and inner is not node.value)

    def test_imports(self):
        drawn = {}
        for path, text, tree in self.each():
            drawn[path.stem] = []
            for node in nodes(tree, ast.ImportFrom):
                self.assertIn(node, tree.body)
                self.assertEqual(node.level, 0)
                self.assertRegex(node.module, r"^kindspan\.[a-z]+$")
                drawn[path.stem].append(node.module.split(".")[1])
                there = ast.parse((PACKAGE / (node.module.split(".")[1] + ".py")).read_text())
                defined = [inner.name for inner in there.body if isinstance(inner, (ast.FunctionDef, ast.ClassDef))]
                defined += [inner.targets[0].id for inner in there.body if isinstance(inner, ast.Assign)]
                for alias in node.names:
                    self.assertIn(alias.name, defined)
        while drawn:
            ends = [name for name in drawn if not [other for other in drawn[name] if other in drawn]]
            self.assertTrue(ends, f"files draw from one another: {drawn}")
            drawn = {name: drawn[name] for name in drawn if name not in ends}

    def test_names(self):
        for path, text, tree in self.each():
            bound = [node.id for node in nodes(tree, ast.Name) if isinstance(node.ctx, ast.Store)]
            bound += [node.arg for node in nodes(tree, ast.arg)]
            bound += [node.name for node in nodes(tree, ast.ExceptHandler) if node.name]
            defined = [node.name for node in nodes(tree, ast.FunctionDef, ast.ClassDef)]
            imported = [alias.name for node in nodes(tree, ast.ImportFrom) for alias in node.names]
            classes = [node.name for node in nodes(tree, ast.ClassDef)]
            for name in bound:
                self.assertNotIn(name, dir(__builtins__) if not isinstance(__builtins__, dict) else __builtins__)
                self.assertNotIn(name, classes + imported)
                self.assertNotIn(name, UNUSED_NAMES + ["match"])
            for name in bound + defined:
                if name not in DUNDERS:
                    self.assertRegex(name, r"^[A-Za-z][A-Za-z0-9_]*$")
            for node in nodes(tree, ast.Name):
                self.assertIn(node.id, bound + defined + imported + BUILTINS)

    def test_methods(self):
        trees = [ast.parse(path.read_text()) for path in files()]
        own = [node.name for tree in trees for each in nodes(tree, ast.ClassDef) for node in each.body
               if isinstance(node, ast.FunctionDef)]
        given = [node.attr for tree in trees for node in nodes(tree, ast.Attribute) if isinstance(node.ctx, ast.Store)]
        self.assertEqual(set(own) & set(given), set())
        for path, text, tree in self.each():
            called = [node.func for node in nodes(tree, ast.Call)]
            for node in nodes(tree, ast.Attribute):
                self.assertNotIn(node.attr, UNUSED_NAMES)
                if node in called:
                    self.assertIn(node.attr, METHODS + own)
                else:
                    self.assertIn(node.attr, given)

    def test_walked_at_once(self):
        for path, text, tree in self.each():
            fine = [node.iter for node in nodes(tree, ast.For, ast.comprehension)]
            for node in nodes(tree, ast.Call):
                if isinstance(node.func, ast.Name) and node.func.id in WALKERS:
                    fine.extend(node.args[:1])
            for node in nodes(tree, ast.Call):
                name = getattr(node.func, "id", getattr(node.func, "attr", None))
                if name in WALKED_AT_ONCE + ("items", "keys", "values"):
                    self.assertIn(node, fine, ast.unparse(node))

    def test_keywords(self):
        allowed = {"sorted": ("key", "reverse"), "min": ("key", "default"), "max": ("key", "default"), "sum": ("start",),
                   "enumerate": ("start",), "zip": ("strict",)}
        for path, text, tree in self.each():
            for node in nodes(tree, ast.Call):
                for keyword in node.keywords:
                    self.assertIn(keyword.arg, allowed.get(getattr(node.func, "id", ""), ()), ast.unparse(node))

    def test_errors(self):
        for path, text, tree in self.each():
            for node in nodes(tree, ast.ExceptHandler):
                self.assertIsInstance(node.type, ast.Name)
                self.assertIn(node.type.id, ("KeyError", "ZeroDivisionError", "StopIteration", "KindError", "NoJoin",
                                             "NoKind", "NoName", "Stuck"))
            for node in nodes(tree, ast.Raise):
                self.assertIsInstance(node.exc, ast.Call)

    def test_no_sets_and_no_powers(self):
        for path, text, tree in self.each():
            self.assertEqual(nodes(tree, ast.Set, ast.Pow), [])
            self.assertEqual([node for node in nodes(tree, ast.Name) if node.id in ("set", "frozenset")], [])

    def test_names_of_the_top_are_bound_once_and_only_read(self):
        for path, text, tree in self.each():
            bound = [node.targets[0].id for node in tree.body if isinstance(node, ast.Assign)]
            bound += [node.name for node in tree.body if isinstance(node, (ast.FunctionDef, ast.ClassDef))]
            bound += [alias.name for node in nodes(tree, ast.ImportFrom) for alias in node.names]
            self.assertEqual(len(bound), len(set(bound)))
            plain = [node.targets[0].id for node in tree.body if isinstance(node, ast.Assign)]
            read = [node.value for node in nodes(tree, ast.Subscript, ast.Attribute) if isinstance(node.ctx, ast.Load)]
            read += [right for node in nodes(tree, ast.Compare) for right in node.comparators]
            for node in nodes(tree, ast.Name):
                if node.id in plain and isinstance(node.ctx, ast.Load):
                    self.assertIn(node, read, node.id)

    def test_methods_stand_once(self):
        for path, text, tree in self.each():
            for each in nodes(tree, ast.ClassDef):
                names = [node.name for node in each.body if isinstance(node, ast.FunctionDef)]
                self.assertEqual(len(names), len(set(names)))


if __name__ == "__main__":
    unittest.main()
