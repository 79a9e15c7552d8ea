"""The package's files keep to the part of Python that the program is written in, as far as it can be read off."""

import ast
import pathlib
import re
import unittest

PACKAGE = pathlib.Path(__file__).resolve().parent.parent / "seenhistory"

NODES = """
Module FunctionDef ClassDef arguments arg Return Assign AugAssign For While If Raise Try ExceptHandler ImportFrom alias
Expr Pass Break Continue BoolOp And Or BinOp Add Sub Mult FloorDiv Mod Pow BitAnd BitOr BitXor LShift RShift UnaryOp
Not USub Invert Lambda IfExp Dict List Tuple ListComp comprehension Compare Eq NotEq Lt LtE Gt GtE Is IsNot In NotIn
Call keyword Constant Attribute Subscript Slice Name Load Store JoinedStr FormattedValue
""".split()

BUILT_IN = """
len range enumerate zip min max sum abs sorted reversed int str bool list tuple dict set frozenset isinstance ord repr
any all divmod Exception ValueError KeyError IndexError LookupError ZeroDivisionError RuntimeError
""".split()

METHODS = """
append clear copy count endswith extend find get index insert isalnum isalpha isdigit islower isspace isupper items join
keys ljust lower lstrip partition pop remove replace reverse rfind rjust rpartition rsplit rstrip setdefault split
splitlines startswith strip update upper values zfill bit_length
""".split()

WORDS = """
type typing typing_extensions enum Enum IntEnum StrEnum Flag IntFlag Generic Protocol ABC ABCMeta namedtuple NamedTuple
TypedDict TYPE_CHECKING abstractmethod
""".split()

UNUSED = """
register mro elements open input version_info with_traceback add_note attrgetter breakpoint builtins compile copyright
credits delattr dir eval exec exit gc getattr globals hasattr help id importlib license locals methodcaller os quit
setattr super type vars sys
""".split()

WALKED = ("list", "tuple", "dict", "sorted", "sum", "any", "all", "enumerate", "zip", "min", "max")

TAKEN = [name for one in ("", 0, [], (), {}, set(), b"") for name in dir(one)]


def nodes_of(tree, *kinds):
    return [node for node in ast.walk(tree) if isinstance(node, kinds)]


def bound_names(tree):
    names = [node.name for node in nodes_of(tree, ast.FunctionDef, ast.ClassDef)]
    names += [node.arg for node in nodes_of(tree, ast.arg)]
    names += [node.id for node in nodes_of(tree, ast.Name) if isinstance(node.ctx, ast.Store)]
    return names + imported_names(tree)


def called_name(node):
    return node.func.id if isinstance(node.func, ast.Name) else None


def imported_names(tree):
    return [name.name for node in nodes_of(tree, ast.ImportFrom) for name in node.names]


class Language(unittest.TestCase):
    def setUp(self):
        self.texts = {path.stem: path.read_text(encoding="ascii") for path in sorted(PACKAGE.glob("*.py"))}
        self.trees = {stem: ast.parse(text) for stem, text in self.texts.items()}

    def test_files(self):
        self.assertIn("orders", self.trees)
        for path in PACKAGE.iterdir():
            if path.name != "__pycache__":
                self.assertRegex(path.name, r"^(__init__|[a-z][a-z0-9_]*)\.py$")

    def test_size_and_signs(self):
        for stem, text in self.texts.items():
            rows = text.split("\n")
            self.assertLessEqual(len(rows), 400)
            for row in rows:
                self.assertRegex(row, r"^[ -~]{0,120}$", stem)
            for node in nodes_of(self.trees[stem], ast.FunctionDef):
                self.assertLessEqual(node.end_lineno - node.lineno + 1, 40, node.name)

    def test_words(self):
        for stem, text in self.texts.items():
            for word in WORDS:
                self.assertIsNone(re.search(rf"\b{word}\b", text), (stem, word))

    def test_forms(self):
        for stem, tree in self.trees.items():
            for node in ast.walk(tree):
                self.assertIn(type(node).__name__, NODES, (stem, getattr(node, "lineno", None)))
            for node in nodes_of(tree, ast.Assign):
                self.assertEqual(len(node.targets), 1)
                self.assertNotIsInstance(node.targets[0], (ast.Tuple, ast.List))
            for node in nodes_of(tree, ast.For, ast.While):
                self.assertEqual(node.orelse, [])
            for node in nodes_of(tree, ast.FunctionDef, ast.ClassDef):
                self.assertEqual(node.decorator_list, [])
            for node in nodes_of(tree, ast.Constant):
                self.assertIn(type(node.value), (int, str, bool, type(None)))

    def test_imports(self):
        drawn = {}
        for stem, tree in self.trees.items():
            drawn[stem] = []
            for node in nodes_of(tree, ast.ImportFrom):
                self.assertEqual(node.level, 0)
                package, source = node.module.split(".")
                self.assertEqual(package, "seenhistory")
                drawn[stem].append(source)
                defined = [one.name for one in self.trees[source].body if hasattr(one, "name")]
                defined += [one.targets[0].id for one in self.trees[source].body if isinstance(one, ast.Assign)]
                for name in node.names:
                    self.assertIn(name.name, defined)
                    self.assertIsNone(name.asname)
        while drawn:
            free = [stem for stem in drawn if not any(source in drawn for source in drawn[stem])]
            self.assertTrue(free, "files draw from one another")
            for stem in free:
                drawn.pop(stem)

    def test_names(self):
        built_in = dir(__builtins__) if not isinstance(__builtins__, dict) else list(__builtins__)
        for stem, tree in self.trees.items():
            for name in bound_names(tree):
                self.assertTrue(re.match(r"^[A-Za-z][A-Za-z0-9_]*$", name) or name == "__init__", (stem, name))
                self.assertTrue(name == "__init__" or name not in built_in, (stem, name))
            for node in nodes_of(tree, ast.FunctionDef):
                local = set(bound_names(node)) - {node.name}
                self.assertEqual(local & set(imported_names(tree)), set(), (stem, node.name))
            for node in nodes_of(tree, ast.Name):
                if node.id in built_in:
                    self.assertIn(node.id, BUILT_IN, (stem, node.lineno))

    def test_methods_and_values(self):
        own = [one.name for tree in self.trees.values() for node in nodes_of(tree, ast.ClassDef)
               for one in node.body if isinstance(one, ast.FunctionDef)]
        for stem, tree in self.trees.items():
            called = [node.func for node in nodes_of(tree, ast.Call) if isinstance(node.func, ast.Attribute)]
            for node in called:
                self.assertIn(node.attr, own + METHODS, (stem, node.lineno))
            for node in nodes_of(tree, ast.Attribute):
                if node not in called:
                    self.assertNotIn(node.attr, own, (stem, node.lineno))
                    self.assertNotIn(node.attr, TAKEN, (stem, node.lineno))

    def test_names_that_are_not_used(self):
        for stem, tree in self.trees.items():
            for node in nodes_of(tree, ast.Name):
                self.assertNotIn(node.id, UNUSED, (stem, node.lineno))
            for node in nodes_of(tree, ast.Attribute):
                self.assertNotIn(node.attr, UNUSED, (stem, node.lineno))

    def test_is_beside_none_alone(self):
        for stem, tree in self.trees.items():
            for node in nodes_of(tree, ast.Compare):
                for sign, right in zip(node.ops, node.comparators):
                    if isinstance(sign, (ast.Is, ast.IsNot)):
                        self.assertIsInstance(right, ast.Constant, (stem, node.lineno))
                        self.assertIn(right.value, (None, True, False), (stem, node.lineno))

    def test_parameters_are_plain(self):
        for stem, tree in self.trees.items():
            for node in nodes_of(tree, ast.arguments):
                self.assertEqual([node.vararg, node.kwarg, node.kwonlyargs, node.posonlyargs], [None, None, [], []])

    def test_sets_and_ranges_are_used_on_the_spot(self):
        fit = {"set": ("len", "sorted"), "range": WALKED, "enumerate": WALKED, "zip": WALKED, "reversed": WALKED}
        for stem, tree in self.trees.items():
            walked = [node.iter for node in nodes_of(tree, ast.For, ast.comprehension)]
            for node in nodes_of(tree, ast.Call):
                if called_name(node) in fit:
                    around = [called_name(other) for other in nodes_of(tree, ast.Call) if node in other.args]
                    on_the_spot = called_name(node) != "set" and node in walked
                    self.assertTrue(on_the_spot or any(name in fit[called_name(node)] for name in around),
                                    (stem, node.lineno))

    def test_each_name_once_at_the_top(self):
        for stem, tree in self.trees.items():
            names = imported_names(tree) + [node.name for node in tree.body if hasattr(node, "name")]
            names += [node.targets[0].id for node in tree.body if isinstance(node, ast.Assign)]
            self.assertEqual(len(names), len(set(names)), stem)

    def test_top_is_plain(self):
        for stem, tree in self.trees.items():
            self.assertIsNotNone(ast.get_docstring(tree), stem)
            for node in tree.body[1:]:
                self.assertIsInstance(node, (ast.ImportFrom, ast.FunctionDef, ast.ClassDef, ast.Assign))
                if isinstance(node, ast.Assign):
                    ast.literal_eval(node.value)
