"""The program's files keep to the small part of Python that they are to be written in (L1 to L28)."""

import ast
import builtins
import pathlib
import re
import unittest

FOLDER = pathlib.Path(__file__).resolve().parent.parent / "pagedmemory"
FILES = sorted(path for path in FOLDER.rglob("*") if "__pycache__" not in path.parts and path.is_file())

NODES = set("""
    Module Import ImportFrom alias FunctionDef arguments arg ClassDef Assign AugAssign If While For Return Break Continue
    Pass Raise Try ExceptHandler Expr Constant List Tuple Dict Name Load Store Attribute Subscript Slice Call keyword
    BinOp Add Sub Mult FloorDiv Mod Pow BitOr BitAnd BitXor LShift RShift UnaryOp USub UAdd Invert Not BoolOp And Or
    Compare Eq NotEq Lt LtE Gt GtE Is IsNot In NotIn IfExp ListComp comprehension Lambda JoinedStr FormattedValue Set
""".split())

OWN_OF_PYTHON = set("""
    len range enumerate zip min max sum abs sorted reversed int str bool list tuple dict set frozenset isinstance ord
    repr any all divmod Exception ValueError TypeError KeyError IndexError LookupError ZeroDivisionError ArithmeticError
    OverflowError RuntimeError NotImplementedError AttributeError StopIteration
""".split())

METHODS_OF_PYTHON = set("""
    append clear copy count endswith extend find get index insert isalnum isalpha isdigit islower isspace isupper items
    join keys ljust lower lstrip partition pop remove replace reverse rfind rjust rpartition rsplit rstrip setdefault
    split splitlines startswith strip update upper values zfill bit_length
""".split())

UNUSED_WORDS = re.compile(
    r"\b(type|typing|typing_extensions|enum|Enum|IntEnum|StrEnum|Flag|IntFlag|Generic|Protocol|ABC|ABCMeta|namedtuple"
    r"|NamedTuple|TypedDict|TYPE_CHECKING|abstractmethod)\b|dataclass|overload|contextmanager")

UNUSED_NAMES = set("""
    register mro elements open input version_info with_traceback add_note attrgetter breakpoint builtins compile
    copyright credits delattr dir eval exec exit gc getattr globals hasattr help id importlib license locals
    methodcaller os quit setattr super vars sys format format_map
""".split())

VALUES_OF_PYTHON = (str, int, list, dict, set, frozenset, tuple, bytes, bool)


def nodes_of(tree, *kinds):
    return [node for node in ast.walk(tree) if isinstance(node, kinds)]


def functions_of(tree):
    return nodes_of(tree, ast.FunctionDef)


def bound_names(tree):
    names = [node.id for node in nodes_of(tree, ast.Name) if isinstance(node.ctx, ast.Store)]
    names += [node.arg for node in nodes_of(tree, ast.arg)]
    return names + [node.name for node in nodes_of(tree, ast.FunctionDef, ast.ClassDef)]


class Language(unittest.TestCase):
    @classmethod
    def setUpClass(cls):
        cls.texts = {path.name: path.read_bytes().decode("ascii") for path in FILES}
        cls.trees = {name: ast.parse(text) for name, text in cls.texts.items()}

    def test_files(self):
        self.assertIn("__init__.py", self.texts)
        for path in FILES:
            self.assertEqual(path.parent, FOLDER)
            self.assertRegex(path.name, r"^([a-z][a-z0-9_]*|__init__)\.py$")
            self.assertNotIn(path.stem, dir(builtins))

    def test_signs_and_sizes(self):
        for name, text in self.texts.items():
            with self.subTest(file=name):
                self.assertRegex(text, r"\A[ -~\n]*\n\Z")
                self.assertLessEqual(len(text.splitlines()), 400)
                self.assertLessEqual(max(len(row) for row in text.splitlines()), 120)
                self.assertIsNone(UNUSED_WORDS.search(text))
        for tree in self.trees.values():
            for function in functions_of(tree):
                self.assertLessEqual(function.end_lineno - function.lineno + 1, 40, function.name)

    def test_statements_and_expressions(self):
        for tree in self.trees.values():
            self.assertEqual({node.__class__.__name__ for node in ast.walk(tree)} - NODES, set())
            for node in nodes_of(tree, ast.Assign):
                self.assertEqual([target.__class__ in (ast.Name, ast.Attribute, ast.Subscript) for target in node.targets],
                                 [True])
            for node in nodes_of(tree, ast.For, ast.While):
                self.assertEqual(node.orelse, [])
            for node in nodes_of(tree, ast.Constant):
                self.assertIn(node.value.__class__, (int, str, bool, None.__class__))
            for body in [node.body for node in nodes_of(tree, ast.FunctionDef, ast.ClassDef)]:
                self.assertEqual([row for row in body if isinstance(row, ast.Expr) and isinstance(row.value, ast.Constant)],
                                 [])

    def test_top_of_files(self):
        for tree in self.trees.values():
            self.assertIsNotNone(ast.get_docstring(tree))
            for node in tree.body[1:]:
                self.assertIsInstance(node, (ast.ImportFrom, ast.FunctionDef, ast.ClassDef, ast.Assign))
                if isinstance(node, ast.Assign):
                    ast.literal_eval(node.value)

    def test_imports(self):
        drawn = {}
        for name, tree in self.trees.items():
            drawn[name] = set()
            for node in nodes_of(tree, ast.ImportFrom):
                file = node.module.removeprefix("pagedmemory.") + ".py"
                drawn[name].add(file)
                defined = {row.name for row in self.trees[file].body if hasattr(row, "name")}
                defined |= {row.targets[0].id for row in self.trees[file].body if isinstance(row, ast.Assign)}
                self.assertLessEqual({alias.name for alias in node.names}, defined)
            self.assertEqual(nodes_of(tree, ast.Import), [])
        while drawn:
            ends = [name for name in drawn if not drawn[name] & set(drawn)]
            self.assertNotEqual(ends, [], "files draw from one another")
            drawn = {name: files for name, files in drawn.items() if name not in ends}

    def test_names(self):
        for tree in self.trees.values():
            imported = [alias.name for node in nodes_of(tree, ast.ImportFrom) for alias in node.names]
            bound = bound_names(tree)
            for name in bound:
                self.assertRegex(name, r"^([A-Za-z][A-Za-z0-9_]*|__init__)$")
                self.assertNotIn(name, dir(builtins))
                self.assertNotIn(name, imported)
            for node in nodes_of(tree, ast.Name):
                self.assertIn(node.id, OWN_OF_PYTHON | set(bound) | set(imported))
            used = {node.id for node in nodes_of(tree, ast.Name)} | {node.attr for node in nodes_of(tree, ast.Attribute)}
            self.assertEqual((used | set(bound)) & UNUSED_NAMES, set())

    def test_each_top_name_once(self):
        for tree in self.trees.values():
            names = [alias.name for node in nodes_of(tree, ast.ImportFrom) for alias in node.names]
            names += [node.name for node in tree.body if hasattr(node, "name")]
            names += [node.targets[0].id for node in tree.body if isinstance(node, ast.Assign)]
            self.assertEqual(len(names), len(set(names)))

    def test_functions_and_classes(self):
        for tree in self.trees.values():
            for node in functions_of(tree):
                self.assertEqual((node.decorator_list, node.returns, node.args.vararg, node.args.kwarg), ([], None, None, None))
                self.assertEqual([each for each in node.args.args if each.annotation], [])
                self.assertEqual((node.args.kwonlyargs, node.args.posonlyargs), ([], []))
            for node in nodes_of(tree, ast.ClassDef):
                self.assertEqual({row.__class__ for row in node.body} - {ast.FunctionDef, ast.Pass}, set())
                self.assertLessEqual(len(node.bases), 1)

    def test_methods_and_values(self):
        own_methods, values = set(), set()
        for tree in self.trees.values():
            for node in nodes_of(tree, ast.ClassDef):
                own_methods |= {row.name for row in functions_of(node)}
            values |= {node.attr for node in nodes_of(tree, ast.Attribute) if isinstance(node.ctx, ast.Store)}
        taken = {name for kind in VALUES_OF_PYTHON for name in dir(kind)} - {"__init__"}
        self.assertEqual((own_methods | values) & taken, set())
        self.assertEqual(own_methods & values, set())
        for tree in self.trees.values():
            called = {node.func.attr for node in nodes_of(tree, ast.Call) if isinstance(node.func, ast.Attribute)}
            self.assertLessEqual(called, METHODS_OF_PYTHON | own_methods)

    def test_comprehensions_texts_and_keywords(self):
        for tree in self.trees.values():
            for node in nodes_of(tree, ast.ListComp):
                self.assertEqual(len(node.generators), 1)
                self.assertLessEqual(len(node.generators[0].ifs), 1)
            for node in nodes_of(tree, ast.FormattedValue):
                self.assertIsInstance(node.value, ast.Name)
            for node in nodes_of(tree, ast.Constant):
                self.assertNotIn("%", str(node.value))
            allowed = {"key", "reverse", "default", "start", "strict"}
            self.assertLessEqual({node.arg for node in nodes_of(tree, ast.keyword)}, allowed)

    def test_what_a_loop_walks_is_not_changed_in_it(self):
        changing = {"append", "clear", "extend", "insert", "pop", "remove", "reverse", "setdefault", "update"}
        for tree in self.trees.values():
            for loop in nodes_of(tree, ast.For):
                walked = ast.unparse(loop.iter)
                for node in nodes_of(loop, ast.Call):
                    if isinstance(node.func, ast.Attribute) and node.func.attr in changing:
                        self.assertNotIn(ast.unparse(node.func.value), walked)
                for node in nodes_of(loop, ast.Subscript):
                    if isinstance(node.ctx, ast.Store):
                        self.assertNotIn(ast.unparse(node.value), walked)

    def test_lists_and_dicts_of_a_files_top_stay_as_they_are(self):
        for tree in self.trees.values():
            kept = {row.targets[0].id for row in tree.body
                    if isinstance(row, ast.Assign) and isinstance(row.value, (ast.List, ast.Dict))}
            for node in nodes_of(tree, ast.Subscript):
                self.assertFalse(isinstance(node.ctx, ast.Store) and ast.unparse(node.value) in kept)
            called = {ast.unparse(node.func) for node in nodes_of(tree, ast.Call)}
            self.assertEqual({name for name in called if name.split(".")[0] in kept and not name.endswith(".get")}, set())

    def test_powers_and_identity(self):
        for tree in self.trees.values():
            for node in nodes_of(tree, ast.BinOp):
                if isinstance(node.op, ast.Pow):
                    self.assertIn(ast.literal_eval(node.right), range(65))
            for node in nodes_of(tree, ast.Compare):
                if isinstance(node.ops[0], (ast.Is, ast.IsNot)):
                    self.assertIn(ast.unparse(node.comparators[0]), ("None", "True", "False"))


if __name__ == "__main__":
    unittest.main()
