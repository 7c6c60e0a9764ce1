"""The package's files keep to the part of Python that LANGUAGE.md tells; not every rule can be seen from here."""

import ast
import builtins
import pathlib
import re
import unittest

import meanring

PACKAGE = pathlib.Path(meanring.__file__).parent
FILES = sorted(PACKAGE.rglob("*.py"))

NODES = """Module Expr FunctionDef ClassDef arguments arg Return Assign AugAssign For While If Raise Try ExceptHandler
    ImportFrom alias Pass Break Continue BoolOp And Or BinOp Add Sub Mult FloorDiv Mod Pow BitAnd BitOr BitXor LShift
    RShift UnaryOp Not USub UAdd Invert Lambda IfExp Dict Set ListComp comprehension Compare Eq NotEq Lt LtE Gt GtE Is
    IsNot In NotIn Call keyword FormattedValue JoinedStr Constant Attribute Subscript Slice Name Load Store List
    Tuple""".split()
OWN_NAMES = """len range enumerate zip min max sum abs sorted reversed int str bool list tuple dict set frozenset
    isinstance ord repr any all divmod Exception ValueError TypeError KeyError IndexError LookupError ZeroDivisionError
    ArithmeticError OverflowError RuntimeError NotImplementedError AttributeError StopIteration""".split()
METHODS = """append clear copy count endswith extend find get index insert isalnum isalpha isdigit islower isspace
    isupper items join keys ljust lower lstrip partition pop remove replace reverse rfind rjust rpartition rsplit rstrip
    setdefault split splitlines startswith strip update upper values zfill bit_length""".split()
WORDS = """type typing typing_extensions enum Enum IntEnum StrEnum Flag IntFlag Generic Protocol ABC ABCMeta namedtuple
    NamedTuple TypedDict TYPE_CHECKING abstractmethod""".split()


NOT_AS_NAMES = """attrgetter breakpoint builtins compile copyright credits delattr dir eval exec exit gc getattr globals
    hasattr help id importlib license locals methodcaller os quit setattr super type vars sys register mro elements open
    input version_info with_traceback add_note __name__""".split()
CHANGES = "append clear extend insert pop remove reverse setdefault update".split()
WALKED = "zip enumerate reversed range".split()
WALKERS = "list tuple dict sorted sum any all enumerate zip min max".split()


def bound_names(tree):
    """Every name that the file itself gives a meaning."""
    for node in ast.walk(tree):
        if isinstance(node, (ast.FunctionDef, ast.ClassDef)):
            yield node.name
        elif isinstance(node, ast.arg):
            yield node.arg
        elif isinstance(node, ast.alias):
            yield node.asname or node.name
        elif isinstance(node, ast.Name) and isinstance(node.ctx, ast.Store):
            yield node.id
        elif isinstance(node, ast.ExceptHandler) and node.name:
            yield node.name


def each_file():
    for path in FILES:
        text = path.read_bytes().decode("ascii")
        yield path, text, ast.parse(text)


def called(node):
    """The plain name that is called there, if any."""
    return node.func.id if isinstance(node, ast.Call) and isinstance(node.func, ast.Name) else None


def is_plain(node):
    """A whole number, a text, or a tuple, list or dict of plain values."""
    if isinstance(node, ast.UnaryOp) and isinstance(node.op, ast.USub):
        node = node.operand
    if isinstance(node, (ast.Tuple, ast.List)):
        return all(is_plain(part) for part in node.elts)
    if isinstance(node, ast.Dict):
        return all(is_plain(part) for part in node.keys + node.values)
    return isinstance(node, ast.Constant)


class Files(unittest.TestCase):
    def test_what_lies_in_the_package(self):
        beside = [path for path in PACKAGE.rglob("*") if "__pycache__" not in path.parts and path not in FILES]
        self.assertEqual(beside, [])
        for path in FILES:
            self.assertRegex(path.stem, r"\A([a-z][a-z0-9_]*|__init__)\Z")
        self.assertIn(PACKAGE / "__init__.py", FILES)

    def test_signs_and_sizes(self):
        for path, text, tree in each_file():
            with self.subTest(file=path.name):
                self.assertRegex(text, r"\A[ -~\n]*\Z")
                self.assertLessEqual(len(text.splitlines()), 400)
                self.assertLessEqual(max(map(len, text.splitlines())), 120)
                for node in ast.walk(tree):
                    if isinstance(node, ast.FunctionDef):
                        self.assertLessEqual(node.end_lineno - node.lineno + 1, 40, node.name)

    def test_words(self):
        for path, text, tree in each_file():
            with self.subTest(file=path.name):
                self.assertEqual(set(re.findall(r"\w+", text)) & set(WORDS), set())
                self.assertNotRegex(text, "dataclass|overload|contextmanager")

    def test_statements_and_expressions(self):
        for path, text, tree in each_file():
            with self.subTest(file=path.name):
                for node in ast.walk(tree):
                    self.assertIn(node.__class__.__name__, NODES, getattr(node, "lineno", 0))
                    if isinstance(node, (ast.For, ast.While)):
                        self.assertEqual(node.orelse, [])
                    if isinstance(node, (ast.FunctionDef, ast.ClassDef)):
                        self.assertEqual(node.decorator_list, [])
                    if isinstance(node, ast.arguments):
                        self.assertFalse(node.vararg or node.kwarg or node.kwonlyargs or node.posonlyargs)
                    if isinstance(node, ast.Assign):
                        self.assertEqual(len(node.targets), 1)
                    if isinstance(node, ast.Constant):
                        self.assertIn(node.value.__class__, (int, str, bool, type(None)), node.lineno)

    def test_the_top(self):
        for path, text, tree in each_file():
            with self.subTest(file=path.name):
                names = []
                for place, node in enumerate(tree.body):
                    self.assertIsInstance(node, (ast.ImportFrom, ast.FunctionDef, ast.ClassDef, ast.Assign)
                                          if place else ast.Expr)
                    if isinstance(node, ast.ImportFrom):
                        names.extend(alias.name for alias in node.names)
                    elif isinstance(node, ast.Assign):
                        names.append(node.targets[0].id)
                    elif place:
                        names.append(node.name)
                self.assertEqual(len(names), len(set(names)))

    def test_values_at_the_top(self):
        for path, text, tree in each_file():
            for node in tree.body:
                if isinstance(node, ast.Assign):
                    self.assertTrue(is_plain(node.value), (path.name, node.lineno))
                    # Only what can't be changed stands there, so nothing is kept there.
                    self.assertNotIsInstance(node.value, (ast.List, ast.Dict), (path.name, node.lineno))

    def test_no_annotations_sets_or_inner_functions(self):
        for path, text, tree in each_file():
            for node in ast.walk(tree):
                place = (path.name, getattr(node, "lineno", 0))
                self.assertIsNone(getattr(node, "annotation", None), place)
                self.assertIsNone(getattr(node, "returns", None), place)
                self.assertNotIsInstance(node, (ast.Set, ast.Lambda, ast.Try), place)
                self.assertNotIn(called(node), ("set", "frozenset"), place)
                if isinstance(node, ast.FunctionDef):
                    inner = [part for part in ast.walk(node) if isinstance(part, (ast.FunctionDef, ast.ClassDef))]
                    self.assertEqual(inner, [node], place)

    def test_comprehensions(self):
        for path, text, tree in each_file():
            for node in ast.walk(tree):
                if isinstance(node, ast.ListComp):
                    self.assertEqual(len(node.generators), 1, (path.name, node.lineno))
                    self.assertLessEqual(len(node.generators[0].ifs), 1, (path.name, node.lineno))

    def test_walked_on_the_spot(self):
        for path, text, tree in each_file():
            spots = []
            for node in ast.walk(tree):
                if isinstance(node, (ast.For, ast.comprehension)):
                    spots.append(node.iter)
                elif called(node) in WALKERS:
                    spots.extend(node.args[:1])
            for node in ast.walk(tree):
                method = isinstance(node, ast.Call) and isinstance(node.func, ast.Attribute) and node.func.attr
                if called(node) in WALKED or method in ("items", "keys", "values"):
                    self.assertIn(node, spots, (path.name, node.lineno))

    def test_what_is_walked_is_not_changed(self):
        for path, text, tree in each_file():
            for loop in ast.walk(tree):
                if not isinstance(loop, ast.For):
                    continue
                walked = {ast.unparse(part) for part in ast.walk(loop.iter) if isinstance(part, ast.Name)}
                for node in (part for row in loop.body for part in ast.walk(row)):
                    changed = None
                    if isinstance(node, ast.Subscript) and isinstance(node.ctx, ast.Store):
                        changed = ast.unparse(node.value)
                    elif isinstance(node, ast.Call) and isinstance(node.func, ast.Attribute):
                        changed = ast.unparse(node.func.value) if node.func.attr in CHANGES else None
                    self.assertNotIn(changed, walked, (path.name, node))

    def test_locals_are_not_called_like_imports_or_classes(self):
        for path, text, tree in each_file():
            drawn = {alias.name for node in tree.body if isinstance(node, ast.ImportFrom) for alias in node.names}
            drawn |= {node.name for node in tree.body if isinstance(node, ast.ClassDef)}
            for node in ast.walk(tree):
                if isinstance(node, ast.FunctionDef):
                    self.assertEqual(set(bound_names(node)) & drawn, set(), (path.name, node.name))

    def test_keywords_and_texts(self):
        for path, text, tree in each_file():
            for node in ast.walk(tree):
                place = (path.name, getattr(node, "lineno", 0))
                self.assertNotIsInstance(node, (ast.keyword, ast.Pow), place)
                if isinstance(node, ast.Constant) and isinstance(node.value, str):
                    self.assertNotIn("%", node.value, place)
                name = getattr(node, "id", getattr(node, "attr", getattr(node, "name", None)))
                self.assertNotIn(name, NOT_AS_NAMES, place)

    def test_imports(self):
        drawn = {}
        for path, text, tree in each_file():
            with self.subTest(file=path.name):
                rows = [node for node in ast.walk(tree) if isinstance(node, (ast.Import, ast.ImportFrom))]
                self.assertEqual([node for node in rows if node not in tree.body], [])
                for node in rows:
                    self.assertIsInstance(node, ast.ImportFrom)
                    self.assertEqual(node.level, 0)
                    self.assertRegex(node.module, r"\Ameanring\.[a-z0-9_]+\Z")
                    source = ast.parse((PACKAGE / (node.module.split(".")[1] + ".py")).read_text("ascii"))
                    defined = [item.name for item in source.body if isinstance(item, (ast.FunctionDef, ast.ClassDef))]
                    defined += [item.targets[0].id for item in source.body if isinstance(item, ast.Assign)]
                    self.assertLessEqual({alias.name for alias in node.names}, set(defined))
                drawn[path.stem] = {node.module.split(".")[1] for node in rows}
        while drawn:
            ends = [name for name in drawn if not drawn[name] & set(drawn)]
            self.assertTrue(ends, "files that draw from one another")
            drawn = {name: drawn[name] for name in drawn if name not in ends}

    def test_names(self):
        for path, text, tree in each_file():
            with self.subTest(file=path.name):
                bound = set(bound_names(tree))
                self.assertEqual(bound & set(dir(builtins)), set())
                for name in bound - {"__init__", "__eq__", "__repr__", "__str__", "__len__"}:
                    self.assertRegex(name, r"\A[A-Za-z][A-Za-z0-9_]*\Z")
                for node in ast.walk(tree):
                    if isinstance(node, ast.Name) and isinstance(node.ctx, ast.Load):
                        self.assertIn(node.id, bound | set(OWN_NAMES), node.lineno)
                    if isinstance(node, ast.Compare) and isinstance(node.ops[0], (ast.Is, ast.IsNot)):
                        self.assertIn(ast.unparse(node.comparators[0]), ("None", "True", "False"), node.lineno)

    def test_methods(self):
        own = {"__init__"}
        for path, text, tree in each_file():
            for kind in tree.body:
                if isinstance(kind, ast.ClassDef):
                    own |= {node.name for node in kind.body if isinstance(node, ast.FunctionDef)}
        for path, text, tree in each_file():
            with self.subTest(file=path.name):
                for node in ast.walk(tree):
                    if isinstance(node, ast.Call) and isinstance(node.func, ast.Attribute):
                        self.assertIn(node.func.attr, own | set(METHODS), node.lineno)


if __name__ == "__main__":
    unittest.main()
