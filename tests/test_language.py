"""What of shared/LANGUAGE.md can be told from the package's files alone, rule by rule."""

import ast
import pathlib
import re
import unittest

PACKAGE = pathlib.Path(__file__).resolve().parent.parent / "nearroutes"
FILES = sorted(path for path in PACKAGE.rglob("*") if "__pycache__" not in path.parts)

NODES = set("""
    Module Import ImportFrom alias FunctionDef ClassDef Return Assign AugAssign For While If Raise Try Expr Pass Break
    Continue ExceptHandler BoolOp BinOp UnaryOp Lambda IfExp Dict Set ListComp Compare Call JoinedStr FormattedValue
    Constant Attribute Subscript Name List Tuple Slice Load Store And Or Add Sub Mult Mod Pow LShift RShift BitOr
    BitXor BitAnd FloorDiv Invert Not USub Eq NotEq Lt LtE Gt GtE Is IsNot In NotIn comprehension arguments arg keyword
""".split())
BUILTINS = set("""
    len range enumerate zip min max sum abs sorted reversed int str bool list tuple dict set frozenset isinstance ord
    repr any all divmod Exception ValueError TypeError KeyError IndexError LookupError ZeroDivisionError
    ArithmeticError OverflowError RuntimeError NotImplementedError AttributeError StopIteration
""".split())
METHODS = set("""
    append clear copy count endswith extend find get index insert isalnum isalpha isdigit islower isspace isupper items
    join keys ljust lower lstrip partition pop remove replace reverse rfind rjust rpartition rsplit rstrip setdefault
    split splitlines startswith strip update upper values zfill bit_length
""".split())
DUNDERS = {"__init__", "__eq__", "__repr__", "__str__", "__len__"}
WORDS = set("""
    type typing typing_extensions enum Enum IntEnum StrEnum Flag IntFlag Generic Protocol ABC ABCMeta namedtuple
    NamedTuple TypedDict TYPE_CHECKING abstractmethod
""".split())
PARTS = ("dataclass", "overload", "contextmanager")
UNUSED = set("""
    register mro elements open input version_info with_traceback add_note attrgetter breakpoint builtins compile
    copyright credits delattr dir eval exec exit gc getattr globals hasattr help id importlib license locals
    methodcaller os quit setattr super vars sys format format_map
""".split())
WALKED = {"zip", "enumerate", "reversed", "range", "items", "keys", "values"}
WALKERS = set("list tuple dict sorted sum any all enumerate zip min max join".split())
OWN_NAMES = set(dir(__builtins__) if not isinstance(__builtins__, dict) else __builtins__)
VALUE_NAMES = {name for kind in (int, str, list, dict, tuple, set, bytes) for name in dir(kind)}


def trees():
    return [(path, ast.parse(path.read_text())) for path in FILES]


def nodes(*kinds):
    return [(path.name, node) for path, tree in trees() for node in ast.walk(tree) if isinstance(node, kinds)]


def methods():
    return [node.name for name, top in nodes(ast.ClassDef) for node in top.body if isinstance(node, ast.FunctionDef)]


def called(node):
    """The name of what is called, without what it is a method of."""
    return getattr(node.func, "attr", getattr(node.func, "id", None))


def bound_names():
    """Names that the package's files bind, but for imports."""
    found = [(name, node.name) for name, node in nodes(ast.FunctionDef, ast.ClassDef)]
    found += [(name, node.arg) for name, node in nodes(ast.arg)]
    return found + [(name, node.id) for name, node in nodes(ast.Name) if isinstance(node.ctx, ast.Store)]


class Files(unittest.TestCase):
    def test_names_and_signs(self):
        self.assertIn(PACKAGE / "__init__.py", FILES)
        for path in FILES:
            self.assertRegex(path.name, r"\A([a-z][a-z0-9_]*|__init__|__main__)\.py\Z")
            self.assertNotIn(path.stem, OWN_NAMES | WORDS | {"test", "tests", "testing", "site", "conftest"})
            self.assertRegex(path.read_bytes().decode("ascii"), r"\A[ -~\n]*\Z")

    def test_sizes(self):
        for path in FILES:
            lines = path.read_text().split("\n")
            self.assertLess(len(lines), 400, path)
            self.assertLessEqual(max(len(line) for line in lines), 120, path)
        for name, node in nodes(ast.FunctionDef):
            self.assertLessEqual(node.end_lineno - node.lineno, 39, (name, node.name))

    def test_words(self):
        for path in FILES:
            text = path.read_text()
            self.assertEqual(set(re.findall(r"\w+", text)) & WORDS, set(), path)
            self.assertEqual([part for part in PARTS if part in text], [], path)


class Forms(unittest.TestCase):
    def test_the_top_of_a_file(self):
        for path, tree in trees():
            self.assertIsNotNone(ast.get_docstring(tree), path)
            for node in tree.body[1:]:
                self.assertIsInstance(node, (ast.ImportFrom, ast.FunctionDef, ast.ClassDef, ast.Assign), path)
                if isinstance(node, ast.Assign):
                    ast.literal_eval(node.value)

    def test_each_name_stands_once_at_the_top(self):
        for path, tree in trees():
            names = [node.name for node in tree.body if isinstance(node, (ast.FunctionDef, ast.ClassDef))]
            names += [target.id for node in tree.body if isinstance(node, ast.Assign) for target in node.targets]
            names += [one.name for node in tree.body if isinstance(node, ast.ImportFrom) for one in node.names]
            self.assertEqual(sorted(names), sorted(set(names)), path)

    def test_imports(self):
        drawn = {}
        for path, tree in trees():
            froms = [node for node in ast.walk(tree) if isinstance(node, ast.ImportFrom)]
            drawn[path.stem] = {node.module.split(".")[1] for node in froms}
            for node in froms:
                self.assertRegex(node.module, r"\Anearroutes\.[a-z_]+\Z")
                source = (PACKAGE / (node.module.split(".")[1] + ".py")).read_text()
                for one in node.names:
                    self.assertIsNone(one.asname)
                    self.assertRegex(source, r"(?m)^(def |class |)%s\b" % one.name)
        self.assertEqual(nodes(ast.Import), [])
        while drawn:
            ends = [stem for stem in drawn if not drawn[stem]]
            self.assertNotEqual(ends, [], "files draw from one another: " + repr(drawn))
            drawn = {stem: drawn[stem] - set(ends) for stem in drawn if stem not in ends}

    def test_nodes(self):
        for name, node in nodes(ast.AST):
            self.assertIn(node.__class__.__name__, NODES, (name, getattr(node, "lineno", None)))

    def test_statements(self):
        for name, node in nodes(ast.For, ast.While):
            self.assertEqual(node.orelse, [], (name, node.lineno))
        for name, node in nodes(ast.Assign):
            self.assertEqual(len(node.targets), 1, (name, node.lineno))
        for path, tree in trees():
            for node in ast.walk(tree):
                if isinstance(node, ast.Expr) and node is not tree.body[0]:
                    self.assertIsInstance(node.value, ast.Call, (path, node.lineno))

    def test_functions_and_classes_are_plain(self):
        for name, node in nodes(ast.FunctionDef):
            given = node.args
            self.assertEqual((given.vararg, given.kwarg, given.kwonlyargs, given.posonlyargs, node.decorator_list),
                             (None, None, [], [], []), (name, node.name))
        for name, node in nodes(ast.ClassDef):
            self.assertEqual((node.decorator_list, node.keywords), ([], []))
            self.assertTrue(all(isinstance(one, ast.FunctionDef) for one in node.body), (name, node.name))
            own = [one.name for one in node.body]
            self.assertEqual(sorted(own), sorted(set(own)), (name, node.name))

    def test_values(self):
        for name, node in nodes(ast.Constant):
            self.assertTrue(node.value is None or isinstance(node.value, (bool, int, str)), (name, node.lineno))
        for name, node in nodes(ast.ListComp):
            self.assertTrue(len(node.generators) == 1 and len(node.generators[0].ifs) <= 1, (name, node.lineno))
        for name, node in nodes(ast.Compare):
            for operator, right in zip(node.ops, node.comparators):
                if isinstance(operator, (ast.Is, ast.IsNot)):
                    self.assertIsInstance(right, ast.Constant, (name, node.lineno))

    def test_numbers_and_texts(self):
        for name, node in nodes(ast.BinOp):
            if isinstance(node.op, ast.Pow):
                self.assertIsInstance(node.right, ast.Constant, (name, node.lineno))
        for name, node in nodes(ast.Constant):
            self.assertFalse(isinstance(node.value, str) and "%" in node.value, (name, node.lineno))

    def test_no_sets_and_no_annotations(self):
        self.assertEqual(nodes(ast.Set, ast.AnnAssign), [])
        self.assertEqual([name for name, node in nodes(ast.Call) if called(node) in ("set", "frozenset")], [])
        self.assertEqual([name for name, node in nodes(ast.arg) if node.annotation], [])
        self.assertEqual([name for name, node in nodes(ast.FunctionDef) if node.returns], [])

    def test_walked_at_once(self):
        for path, tree in trees():
            walks = [node.iter for node in ast.walk(tree) if isinstance(node, (ast.For, ast.comprehension))]
            calls = [node for node in ast.walk(tree) if isinstance(node, ast.Call)]
            walks += [node.args[0] for node in calls if called(node) in WALKERS and node.args]
            for node in calls:
                if called(node) in WALKED:
                    self.assertTrue(any(node is walk for walk in walks), (path, node.lineno))


class Names(unittest.TestCase):
    def test_bound_names_are_plain_and_not_pythons_own(self):
        for name, bound in bound_names():
            if bound not in DUNDERS:
                self.assertRegex(bound, r"\A[A-Za-z][A-Za-z0-9_]*\Z", name)
            self.assertNotIn(bound, UNUSED, name)
        own = set(methods())
        for name, bound in bound_names():
            if bound not in own:
                self.assertNotIn(bound, OWN_NAMES, name)

    def test_read_names_are_known(self):
        imported = {one.name for name, node in nodes(ast.ImportFrom) for one in node.names}
        known = {bound for name, bound in bound_names()} | imported | BUILTINS
        for name, node in nodes(ast.Name):
            self.assertIn(node.id, known, (name, node.lineno))

    def test_methods_called(self):
        for name, node in nodes(ast.Call):
            if isinstance(node.func, ast.Attribute):
                self.assertIn(node.func.attr, METHODS | set(methods()) | DUNDERS, (name, node.lineno))

    def test_methods_and_values_of_own_classes(self):
        kept = {node.attr for name, node in nodes(ast.Attribute) if isinstance(node.ctx, ast.Store)}
        self.assertEqual(kept & set(methods()), set())
        self.assertEqual((kept | set(methods()) - DUNDERS) & (VALUE_NAMES | UNUSED), set())


if __name__ == "__main__":
    unittest.main()
