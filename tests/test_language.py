"""The part of Python that the package keeps to, as far as it can be told from the files."""

import ast
import builtins
import os
import re
import unittest

PACKAGE = os.path.join(os.path.dirname(os.path.dirname(os.path.abspath(__file__))), "farwordsbook")

NODES = """Module Expr Assign AugAssign If While For Return Break Continue Pass Raise Try ExceptHandler Call FunctionDef
    ClassDef arguments arg ImportFrom alias Name Load Store Constant Tuple List Dict Attribute Subscript Slice BinOp
    UnaryOp BoolOp Compare IfExp ListComp comprehension JoinedStr FormattedValue Lambda keyword Add Sub Mult FloorDiv
    Mod Pow BitAnd BitOr BitXor LShift RShift Invert USub UAdd Not And Or Eq NotEq Lt LtE Gt GtE Is IsNot In
    NotIn""".split()
BUILTINS = """len range enumerate zip min max sum abs sorted reversed int str bool list tuple dict set frozenset
    isinstance ord repr any all divmod Exception ValueError TypeError KeyError IndexError LookupError ZeroDivisionError
    ArithmeticError OverflowError RuntimeError NotImplementedError AttributeError StopIteration""".split()
METHODS = """append clear copy count endswith extend find get index insert isalnum isalpha isdigit islower isspace
    isupper items join keys ljust lower lstrip partition pop remove replace reverse rfind rjust rpartition rsplit rstrip
    setdefault split splitlines startswith strip update upper values zfill bit_length""".split()
NO_NAMES = """register mro elements open input version_info with_traceback add_note attrgetter breakpoint builtins
    compile copyright credits delattr dir eval exec exit gc getattr globals hasattr help id importlib license locals
    methodcaller os quit setattr super vars sys chr""".split()
NO_WORDS = """type typing typing_extensions enum Enum IntEnum StrEnum Flag IntFlag Generic Protocol ABC ABCMeta
    namedtuple NamedTuple TypedDict TYPE_CHECKING abstractmethod""".split()
NO_PARTS = ("dataclass", "overload", "contextmanager")
SPECIAL = ("__init__", "__eq__", "__repr__", "__str__", "__len__")


def files():
    """Each file's name and text."""
    found = []
    for name in sorted(os.listdir(PACKAGE)):
        if name != "__pycache__":
            with open(os.path.join(PACKAGE, name), encoding="utf-8", newline="") as file:
                found.append((name, file.read()))
    return found


def bound(tree):
    """The names that a file's top binds, in order."""
    found = []
    for node in tree.body:
        if isinstance(node, ast.ImportFrom):
            found += [alias.asname or alias.name for alias in node.names]
        elif isinstance(node, (ast.FunctionDef, ast.ClassDef)):
            found.append(node.name)
        elif isinstance(node, ast.Assign):
            found.append(node.targets[0].id)
    return found


def drawn(tree):
    return [node.module.split(".")[-1] + ".py" for node in tree.body if isinstance(node, ast.ImportFrom)]


class Language(unittest.TestCase):
    def setUp(self):
        self.files = files()
        self.trees = {name: ast.parse(text) for name, text in self.files}

    def walked(self, *kinds):
        return [(name, node) for name, tree in self.trees.items() for node in ast.walk(tree) if isinstance(node, kinds)]

    def test_files_and_signs(self):
        self.assertIn("__init__.py", self.trees)
        for name, text in self.files:
            self.assertTrue(re.fullmatch("[a-z][a-z0-9_]*[.]py|__init__[.]py", name), name)
            self.assertNotIn(name[:-3], dir(builtins))
            self.assertEqual([], re.findall("[^ -~\n]", text), name)
            self.assertLessEqual(len(text.splitlines()), 399, name)
            self.assertLessEqual(max(len(row) for row in text.splitlines()), 120, name)

    def test_words_that_stand_nowhere(self):
        for name, text in self.files:
            self.assertEqual([], [word for word in re.findall("[A-Za-z_0-9]+", text) if word in NO_WORDS], name)
            self.assertEqual([], [part for part in NO_PARTS if part in text], name)

    def test_only_what_the_language_has(self):
        for name, node in self.walked(ast.AST):
            self.assertIn(node.__class__.__name__, NODES, (name, getattr(node, "lineno", 0)))

    def test_values(self):
        for name, node in self.walked(ast.Constant):
            self.assertIn(type(node.value), (int, str, bool, type(None)), (name, node.lineno))
        for name, node in self.walked(ast.Assign):
            self.assertEqual(1, len(node.targets), (name, node.lineno))
        for name, node in self.walked(ast.ListComp):
            self.assertTrue(len(node.generators) == 1 and len(node.generators[0].ifs) <= 1, (name, node.lineno))
        for name, node in self.walked(ast.For, ast.While):
            self.assertEqual([], node.orelse, (name, node.lineno))
        for name, node in self.walked(ast.BinOp):
            self.assertFalse(isinstance(node.op, ast.Pow) and not isinstance(node.right, ast.Constant), name)

    def test_the_top_of_each_file(self):
        for name, tree in self.trees.items():
            self.assertTrue(ast.get_docstring(tree), name)
            for node in tree.body[1:]:
                self.assertIsInstance(node, (ast.ImportFrom, ast.FunctionDef, ast.ClassDef, ast.Assign), name)
            names = bound(tree)
            self.assertEqual(len(names), len(set(names)), name)

    def test_imports(self):
        for name, node in self.walked(ast.ImportFrom):
            self.assertEqual(0, node.level)
            self.assertTrue(node.module.startswith("farwordsbook."), name)
            source = self.trees[node.module.split(".")[1] + ".py"]
            own = [top.name for top in source.body if isinstance(top, (ast.FunctionDef, ast.ClassDef))]
            for alias in node.names:
                self.assertIn(alias.name, own, name)
        behind = {name: set(drawn(tree)) for name, tree in self.trees.items()}
        for _ in behind:
            behind = {name: far.union(*[behind[other] for other in far]) for name, far in behind.items()}
        for name, far in behind.items():
            self.assertNotIn(name, far)

    def test_functions_and_classes(self):
        for name, node in self.walked(ast.FunctionDef):
            self.assertLessEqual(node.end_lineno - node.lineno + 1, 40, (name, node.name))
            args = node.args
            self.assertFalse(args.vararg or args.kwarg or args.kwonlyargs or args.posonlyargs or node.decorator_list)
        for name, node in self.walked(ast.ClassDef):
            self.assertFalse(node.decorator_list or node.keywords)
            for part in node.body:
                self.assertTrue(isinstance(part, ast.FunctionDef) or isinstance(part.value, ast.Constant), name)

    def test_names(self):
        for name, tree in self.trees.items():
            imported = [alias.name for node in tree.body if isinstance(node, ast.ImportFrom) for alias in node.names]
            classes = [node.name for node in tree.body if isinstance(node, ast.ClassDef)]
            for node in ast.walk(tree):
                told = node.id if isinstance(node, ast.Name) and isinstance(node.ctx, ast.Store) else None
                told = node.arg if isinstance(node, ast.arg) else told
                if told is not None:
                    self.assertNotIn(told, imported + classes + dir(builtins) + NO_NAMES, name)
                    self.assertFalse(told.startswith("_"), name)
                if isinstance(node, ast.FunctionDef):
                    self.assertTrue(not node.name.startswith("_") or node.name in SPECIAL, node.name)
                    self.assertNotIn(node.name, dir(builtins), name)

    def test_names_that_are_read(self):
        for name, tree in self.trees.items():
            stored = {node.id for node in ast.walk(tree) if isinstance(node, ast.Name) and isinstance(node.ctx, ast.Store)}
            stored |= {node.arg for node in ast.walk(tree) if isinstance(node, ast.arg)}
            known = stored.union(bound(tree), BUILTINS)
            for node in ast.walk(tree):
                if isinstance(node, ast.Name):
                    self.assertIn(node.id, known, (name, node.lineno))

    def test_methods_and_values(self):
        own = {part.name for _, node in self.walked(ast.ClassDef) for part in node.body
               if isinstance(part, ast.FunctionDef)}
        called = [(name, node.func.attr) for name, node in self.walked(ast.Call) if isinstance(node.func, ast.Attribute)]
        for name, method in called:
            self.assertIn(method, METHODS + sorted(own), name)
        values = {node.attr for _, node in self.walked(ast.Attribute) if isinstance(node.ctx, ast.Store)}
        self.assertEqual(set(), values & own)
        for kind in (str, int, list, dict, set, bytes, tuple):
            self.assertEqual([], sorted((values | own) & set(dir(kind)) - set(SPECIAL)))

    def test_the_interface(self):
        where = [name for name, tree in self.trees.items() for node in tree.body
                 if isinstance(node, (ast.FunctionDef, ast.ClassDef)) and node.name == "answers"]
        self.assertEqual(["bits.py"], where)
        interface = [node for node in self.trees["bits.py"].body if getattr(node, "name", "") == "answers"][0]
        self.assertEqual(["calls"], [arg.arg for arg in interface.args.args])
        self.assertEqual([], interface.args.defaults)


if __name__ == "__main__":
    unittest.main()
