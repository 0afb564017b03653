"""The form of the package's files: what of shared/LANGUAGE.md can be seen row by row."""

import ast
import builtins
import pathlib
import re
import unittest

PACKAGE = pathlib.Path(__file__).resolve().parent.parent / "soundspelling"

PLAIN_NODES = """
    Module FunctionDef Lambda ClassDef arguments arg Return Assign AugAssign For While If Raise Try ExceptHandler
    ImportFrom alias Expr Pass Break Continue BoolOp And Or BinOp Add Sub Mult FloorDiv Mod Pow BitAnd BitOr BitXor
    LShift RShift UnaryOp Not USub UAdd Invert IfExp Dict Set ListComp comprehension Compare Eq NotEq Lt LtE Gt GtE
    Is IsNot In NotIn Call keyword Constant JoinedStr FormattedValue Attribute Subscript Slice Name List Tuple Load
    Store""".split()
OWN_OF_PYTHON = """
    len range enumerate zip min max sum abs sorted reversed int str bool list tuple dict set frozenset isinstance ord
    repr any all divmod Exception ValueError TypeError KeyError IndexError LookupError ZeroDivisionError
    ArithmeticError OverflowError RuntimeError NotImplementedError AttributeError StopIteration""".split()
METHODS = """
    append clear copy count endswith extend find get index insert isalnum isalpha isdigit islower isspace isupper
    items join keys ljust lower lstrip partition pop remove replace reverse rfind rjust rpartition rsplit rstrip
    setdefault split splitlines startswith strip update upper values zfill bit_length""".split()
WORDS_OUT = """
    type typing typing_extensions enum Enum IntEnum StrEnum Flag IntFlag Generic Protocol ABC ABCMeta namedtuple
    NamedTuple TypedDict TYPE_CHECKING abstractmethod""".split()
NAMES_OUT = """
    register mro elements open input version_info with_traceback add_note attrgetter breakpoint builtins compile
    copyright credits delattr dir eval exec exit gc getattr globals hasattr help id importlib license locals
    methodcaller os quit setattr super vars sys""".split()


def names_bound(tree):
    """All names that a file binds: defs, classes, imports, parameters, stored names, stored values, taken errors."""
    bound = set()
    for node in ast.walk(tree):
        if isinstance(node, (ast.FunctionDef, ast.ClassDef)):
            if node.name != "__init__":
                bound.add(node.name)
        elif isinstance(node, ast.alias):
            bound.add(node.asname or node.name)
        elif isinstance(node, ast.arg):
            bound.add(node.arg)
        elif isinstance(node, ast.Name) and isinstance(node.ctx, ast.Store):
            bound.add(node.id)
        elif isinstance(node, ast.Attribute) and isinstance(node.ctx, ast.Store):
            bound.add(node.attr)
        elif isinstance(node, ast.ExceptHandler) and node.name:
            bound.add(node.name)
    return bound


class Form(unittest.TestCase):
    def setUp(self):
        self.files = {}
        for path in sorted(PACKAGE.glob("*.py")):
            text = path.read_text(encoding="utf-8")
            self.files[path.name] = (text, ast.parse(text))

    def each(self):
        return list(self.files.values())

    def test_files(self):
        self.assertIn("__init__.py", self.files)
        lying = [path.name for path in PACKAGE.iterdir() if path.name != "__pycache__"]
        self.assertEqual(sorted(lying), sorted(self.files))
        for name in self.files:
            self.assertRegex(name, r"\A(__init__|[a-z][a-z0-9_]*)\.py\Z")

    def test_signs_and_sizes(self):
        for text, tree in self.each():
            self.assertRegex(text, r"\A[\n -~]*\Z")
            self.assertLessEqual(len(text.splitlines()), 399)
            self.assertLessEqual(max([len(line) for line in text.splitlines()]), 120)
            for node in ast.walk(tree):
                if isinstance(node, ast.FunctionDef):
                    self.assertLessEqual(node.end_lineno - node.lineno + 1, 40, node.name)

    def test_words_that_are_out(self):
        for text, tree in self.each():
            self.assertEqual([word for word in WORDS_OUT if re.search(rf"\b{word}\b", text)], [])
            self.assertNotRegex(text, "dataclass|overload|contextmanager")

    def test_nodes(self):
        for text, tree in self.each():
            self.assertEqual({type(node).__name__ for node in ast.walk(tree)} - set(PLAIN_NODES), set())
            self.assertIsNotNone(ast.get_docstring(tree))
            for node in ast.walk(tree):
                if isinstance(node, ast.Assign):
                    self.assertEqual(len(node.targets), 1)
                if isinstance(node, ast.ListComp):
                    self.assertEqual((len(node.generators), len(node.generators[0].ifs) <= 1), (1, True))
                if isinstance(node, (ast.For, ast.While)):
                    self.assertEqual(node.orelse, [])
                if isinstance(node, ast.Try):
                    self.assertEqual(node.finalbody, [])
                if isinstance(node, (ast.FunctionDef, ast.ClassDef)):
                    self.assertEqual(node.decorator_list, [])

    def test_imports_are_the_package_s_own_and_go_one_way(self):
        drawn = {}
        for name, (text, tree) in self.files.items():
            drawn[name] = []
            for node in ast.walk(tree):
                if isinstance(node, ast.ImportFrom):
                    self.assertRegex(node.module, r"\Asoundspelling\.[a-z0-9_]+\Z")
                    source = node.module.split(".")[1] + ".py"
                    drawn[name].append(source)
                    at_top = self.files[source][1].body
                    defined = [part.name for part in at_top if isinstance(part, (ast.FunctionDef, ast.ClassDef))]
                    defined += [part.targets[0].id for part in at_top if isinstance(part, ast.Assign)]
                    self.assertEqual([part.name for part in node.names if part.name not in defined], [])
        self.assertEqual(drawn["__init__.py"], [])
        while drawn:
            free = [name for name in drawn if not set(drawn[name]) & set(drawn)]
            self.assertNotEqual(free, [], "files draw from one another")
            for name in free:
                drawn.pop(name)

    def test_names(self):
        for text, tree in self.each():
            bound = names_bound(tree)
            self.assertEqual([name for name in bound if name in NAMES_OUT], [])
            self.assertEqual([name for name in bound if name.startswith("_")], [])
            self.assertEqual([name for name in bound if hasattr(builtins, name)], [])
            for node in ast.walk(tree):
                if isinstance(node, ast.Name) and isinstance(node.ctx, ast.Load):
                    self.assertTrue(node.id in bound or node.id in OWN_OF_PYTHON, node.id)

    def test_attributes(self):
        own = set()
        for text, tree in self.each():
            own |= names_bound(tree)
        for text, tree in self.each():
            for node in ast.walk(tree):
                if isinstance(node, ast.Attribute):
                    self.assertNotIn(node.attr, NAMES_OUT)
                    self.assertTrue(node.attr in own or node.attr in METHODS + ["__init__"], node.attr)

    def test_lists_of_a_file_s_top_are_only_read(self):
        for text, tree in self.each():
            kept = [part.targets[0].id for part in tree.body
                    if isinstance(part, ast.Assign) and isinstance(part.value, (ast.Tuple, ast.List, ast.Dict))]
            above = {id(below): node for node in ast.walk(tree) for below in ast.iter_child_nodes(node)}
            for node in ast.walk(tree):
                if isinstance(node, ast.Name) and isinstance(node.ctx, ast.Load) and node.id in kept:
                    use = above[id(node)]
                    read_only = (ast.Subscript, ast.Compare, ast.For, ast.comprehension, ast.Call)
                    self.assertIsInstance(use, read_only, node.id)
                    if isinstance(use, ast.Call):
                        self.assertIn(use.func.id, ("len", "list", "tuple", "dict", "enumerate", "zip", "sorted"))

    def test_methods_and_values_have_different_names(self):
        methods, values = set(), set()
        for text, tree in self.each():
            for node in ast.walk(tree):
                if isinstance(node, ast.ClassDef):
                    methods |= {part.name for part in node.body if isinstance(part, ast.FunctionDef)}
                if isinstance(node, ast.Attribute) and isinstance(node.ctx, ast.Store):
                    values.add(node.attr)
        self.assertEqual(methods & values, set())

    def test_the_interface_stands_where_it_is_told(self):
        defined = {}
        for name, (text, tree) in self.files.items():
            for part in tree.body:
                if isinstance(part, (ast.FunctionDef, ast.ClassDef)):
                    defined.setdefault(part.name, []).append(name)
        self.assertEqual(defined["answers"], ["speller.py"])


if __name__ == "__main__":
    unittest.main()
