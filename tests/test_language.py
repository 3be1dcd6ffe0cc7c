"""The package keeps to the small part of Python that it is to be written in, as far as its text shows that."""

import ast
import builtins
import pathlib
import re
import unittest

PACKAGE = pathlib.Path(__file__).resolve().parent.parent / "driftboxes"

OWN_NAMES = """len range enumerate zip min max sum abs sorted reversed int str bool list tuple dict set frozenset
isinstance ord repr any all divmod Exception ValueError TypeError KeyError IndexError LookupError ZeroDivisionError
ArithmeticError OverflowError RuntimeError NotImplementedError AttributeError StopIteration""".split()

OWN_METHODS = """append clear copy count endswith extend find get index insert isalnum isalpha isdigit islower isspace
isupper items join keys ljust lower lstrip partition pop remove replace reverse rfind rjust rpartition rsplit rstrip
setdefault split splitlines startswith strip update upper values zfill bit_length""".split()

KINDS = """Module Expr Constant ImportFrom alias FunctionDef arguments arg ClassDef Assign AugAssign If While For Return
Break Continue Pass Raise Try ExceptHandler Name Load Store List Tuple Dict Set BinOp UnaryOp BoolOp Compare IfExp Call
keyword Attribute Subscript Slice ListComp comprehension JoinedStr FormattedValue Lambda Add Sub Mult FloorDiv Mod Pow
LShift RShift BitOr BitXor BitAnd Invert Not UAdd USub And Or Eq NotEq Lt LtE Gt GtE Is IsNot In NotIn""".split()

WORDS = """type typing typing_extensions enum Enum IntEnum StrEnum Flag IntFlag Generic Protocol ABC ABCMeta namedtuple
NamedTuple TypedDict TYPE_CHECKING abstractmethod""".split()

NOT_NAMES = """register mro elements open input version_info with_traceback add_note attrgetter breakpoint builtins
compile copyright credits delattr dir eval exec exit gc getattr globals hasattr help id importlib license locals
methodcaller os quit setattr super vars sys print chr""".split()

METHODS_OF_CLASSES = ["__init__", "__eq__", "__repr__", "__str__", "__len__"]


def attributes_of_values():
    return {name for value in ("", 0, [], {}, (), set(), b"") for name in dir(value)}


class Language(unittest.TestCase):

    def files(self):
        found = sorted(path for path in PACKAGE.rglob("*") if "__pycache__" not in path.parts)
        self.assertIn(PACKAGE / "drift.py", found)
        return found

    def trees(self):
        for path in self.files():
            text = path.read_text(encoding="utf-8")
            yield path.name, text, ast.parse(text)

    def nodes(self, *kinds):
        for name, text, tree in self.trees():
            for node in ast.walk(tree):
                if isinstance(node, kinds):
                    yield f"{name}:{getattr(node, 'lineno', 0)}", node

    def test_files(self):
        for path in self.files():
            self.assertEqual(path.parent, PACKAGE)
            self.assertRegex(path.name, r"\A([a-z][a-z0-9_]*|__init__)\.py\Z")
            self.assertNotIn(path.stem, dir(builtins))
            self.assertNotRegex(path.stem, r"\A(tests?|testing|test_.*|site|conftest)\Z")

    def test_size_and_signs(self):
        for name, text, tree in self.trees():
            lines = text.split("\n")
            self.assertLessEqual(len(lines), 400, name)
            self.assertLessEqual(max(len(line) for line in lines), 120, name)
            self.assertRegex(text, r"\A[ -~\n]*\Z", name)
        for where, node in self.nodes(ast.FunctionDef):
            self.assertLessEqual(node.end_lineno - node.lineno + 1, 40, where)

    def test_words(self):
        for name, text, tree in self.trees():
            found = set(re.findall(r"\w+", text))
            self.assertEqual(found & set(WORDS), set(), name)
            self.assertNotRegex(text, "dataclass|overload|contextmanager", name)

    def test_kinds_of_nodes(self):
        for where, node in self.nodes(ast.AST):
            self.assertIn(node.__class__.__name__, KINDS, where)

    def test_imports(self):
        for name, text, tree in self.trees():
            top = [node for node in tree.body if isinstance(node, ast.ImportFrom)]
            self.assertEqual(len(top), sum(isinstance(node, ast.ImportFrom) for node in ast.walk(tree)), name)
            for node in top:
                self.assertEqual(node.level, 0, name)
                self.assertRegex(node.module, r"\Adriftboxes\.[a-z]+\Z", name)
                defined = ast.parse((PACKAGE / (node.module.split(".")[1] + ".py")).read_text())
                bound = [one.name for one in defined.body if isinstance(one, (ast.FunctionDef, ast.ClassDef))]
                for one in node.names:
                    self.assertIn(one.name, bound, name)
                    self.assertIsNone(one.asname, name)
                    self.assertGreater(len(re.findall(rf"\b{one.name}\b", text)), 1, f"{name}: unused {one.name}")

    def test_top_of_a_module(self):
        for name, text, tree in self.trees():
            bound = []
            for node in tree.body:
                self.assertIsInstance(node, (ast.Expr, ast.ImportFrom, ast.FunctionDef, ast.ClassDef, ast.Assign))
                if isinstance(node, ast.Expr):
                    self.assertIsInstance(node.value, ast.Constant, name)
                if isinstance(node, (ast.FunctionDef, ast.ClassDef)):
                    bound.append(node.name)
                if isinstance(node, ast.Assign):
                    bound.append(node.targets[0].id)
                    self.assertFalse([one for one in ast.walk(node.value) if isinstance(one, ast.Call)], name)
            self.assertEqual(len(bound), len(set(bound)), name)

    def test_functions_and_classes(self):
        for where, node in self.nodes(ast.FunctionDef, ast.ClassDef):
            self.assertEqual(node.decorator_list, [], where)
            if isinstance(node, ast.FunctionDef):
                self.assertIsNone(node.returns, where)
                given = node.args
                self.assertFalse(given.vararg or given.kwarg or given.kwonlyargs or given.posonlyargs, where)
            else:
                self.assertLessEqual(len(node.bases), 1, where)
                for one in node.body:
                    self.assertIsInstance(one, (ast.FunctionDef, ast.Expr), where)

    def test_statements(self):
        for where, node in self.nodes(ast.Assign, ast.For, ast.While, ast.Try, ast.ListComp, ast.Compare):
            if isinstance(node, ast.Assign):
                self.assertEqual(len(node.targets), 1, where)
            if isinstance(node, (ast.For, ast.While)):
                self.assertEqual(node.orelse, [], where)
            if isinstance(node, ast.Try):
                self.assertEqual(node.finalbody, [], where)
            if isinstance(node, ast.ListComp):
                self.assertEqual(len(node.generators), 1, where)
                self.assertLessEqual(len(node.generators[0].ifs), 1, where)
            if isinstance(node, ast.Compare) and isinstance(node.ops[0], (ast.Is, ast.IsNot)):
                self.assertIsInstance(node.comparators[0], ast.Constant, where)

    def test_values(self):
        for where, node in self.nodes(ast.Constant):
            self.assertIn(node.value.__class__, (int, str, bool, None.__class__), where)

    def test_names(self):
        for where, node in self.nodes(ast.Name, ast.arg, ast.Attribute, ast.FunctionDef, ast.ClassDef):
            name = getattr(node, "id", None) or getattr(node, "arg", None) or getattr(node, "attr", None) or node.name
            if name in METHODS_OF_CLASSES:
                continue
            self.assertRegex(name, r"\A[A-Za-z][A-Za-z0-9_]*\Z", where)
            self.assertNotIn(name, NOT_NAMES, where)
            if isinstance(node, ast.Name) and isinstance(node.ctx, ast.Load):
                self.assertTrue(name in OWN_NAMES or name not in dir(builtins), f"{where} {name}")
            elif not isinstance(node, ast.Attribute):
                self.assertNotIn(name, dir(builtins), where)

    def test_no_local_like_a_class_or_an_import(self):
        for name, text, tree in self.trees():
            taken = [one.name for node in tree.body if isinstance(node, ast.ImportFrom) for one in node.names]
            taken += [node.name for node in tree.body if isinstance(node, (ast.ClassDef, ast.FunctionDef))]
            for node in ast.walk(tree):
                if isinstance(node, ast.arg):
                    self.assertNotIn(node.arg, taken, f"{name}:{node.lineno}")
                if isinstance(node, ast.Name) and isinstance(node.ctx, ast.Store):
                    self.assertNotIn(node.id, taken, f"{name}:{node.lineno}")

    def test_methods(self):
        for where, node in self.nodes(ast.Attribute):
            self.assertTrue(node.attr in OWN_METHODS or node.attr not in attributes_of_values(), where)


if __name__ == "__main__":
    unittest.main()
