"""Checks of the package's files against the rules of LANGUAGE.md that a look at the code can tell."""

import ast
import builtins
import pathlib
import re
import unittest

FOLDER = pathlib.Path(__file__).resolve().parent.parent / "satchelmeet"
FILES = sorted(FOLDER.glob("*.py"))

NODES = (
    "Module Expr Constant ImportFrom alias FunctionDef ClassDef arguments arg Return Assign AugAssign Name Load Store"
    " If While For Break Continue Pass Raise Assert Delete Del Try ExceptHandler Call keyword Attribute Subscript Slice"
    " List Tuple Dict Set ListComp DictComp SetComp comprehension IfExp Lambda BoolOp And Or UnaryOp Not USub Invert"
    " BinOp Add Sub Mult FloorDiv Mod Pow LShift RShift BitAnd BitOr BitXor Compare Eq NotEq Lt LtE Gt GtE Is IsNot In"
    " NotIn JoinedStr FormattedValue Starred"
).split()
BUILTINS = (
    "len range enumerate zip min max sum abs sorted reversed int str bool bytes list tuple dict set frozenset isinstance"
    " ord repr any all divmod Exception ValueError TypeError KeyError IndexError LookupError ZeroDivisionError"
    " ArithmeticError OverflowError RuntimeError NotImplementedError AttributeError StopIteration"
).split()
METHODS = (
    "append clear copy count endswith extend find get index insert isalnum isalpha isdigit islower isspace isupper items"
    " join keys ljust lower lstrip partition pop remove replace reverse rfind rjust rpartition rsplit rstrip setdefault"
    " split splitlines startswith strip update upper values zfill bit_length add discard sort"
).split()
WORDS = (
    "type typing typing_extensions enum Enum IntEnum StrEnum Flag IntFlag Generic Protocol ABC ABCMeta namedtuple"
    " NamedTuple TypedDict TYPE_CHECKING abstractmethod"
).split()
NAMES = (
    "register mro elements open input version_info with_traceback add_note attrgetter breakpoint builtins compile"
    " copyright credits delattr dir eval exec exit gc getattr globals hasattr help id importlib license locals"
    " methodcaller os quit setattr super vars sys format format_map"
).split()


def parsed():
    return [(path, path.read_text(), ast.parse(path.read_text())) for path in FILES]


def imports(tree):
    return [node for node in tree.body if isinstance(node, ast.ImportFrom)]


def bound_names(tree):
    """Names bound in functions: parameters, targets, handlers, nested functions."""
    names = []
    for node in ast.walk(tree):
        if isinstance(node, ast.arg):
            names.append(node.arg)
        elif isinstance(node, ast.Name) and isinstance(node.ctx, ast.Store):
            names.append(node.id)
        elif isinstance(node, ast.ExceptHandler) and node.name:
            names.append(node.name)
        elif isinstance(node, (ast.FunctionDef, ast.ClassDef)):
            names.append(node.name)
    return names


def own_methods():
    methods = []
    for path, text, tree in parsed():
        for node in ast.walk(tree):
            if isinstance(node, ast.ClassDef):
                methods += [part.name for part in node.body if isinstance(part, ast.FunctionDef)]
    return methods


class Rules(unittest.TestCase):
    def test_folder(self):
        for path in FOLDER.iterdir():
            if path.name != "__pycache__":
                self.assertRegex(path.name, r"^[a-z0-9_]+\.py$")
        self.assertIn(FOLDER / "__init__.py", FILES)
        self.assertLessEqual(len(FILES), 100)

    def test_lines(self):
        for path, text, tree in parsed():
            with self.subTest(path.name):
                self.assertRegex(text, r"\A[ -~\n]*\Z")
                lines = text.split("\n")
                self.assertLessEqual(len(lines), 400)
                self.assertLessEqual(max(len(line) for line in lines), 120)

    def test_words(self):
        for path, text, tree in parsed():
            with self.subTest(path.name):
                found = set(re.findall(r"[A-Za-z0-9_]+", text)) & set(WORDS)
                self.assertEqual(found, set())
                for part in ["dataclass", "overload", "contextmanager"]:
                    self.assertNotIn(part, text)

    def test_imports(self):
        for path, text, tree in parsed():
            with self.subTest(path.name):
                for node in ast.walk(tree):
                    if isinstance(node, (ast.Import, ast.ImportFrom)):
                        self.assertIn(node, imports(tree))
                for node in imports(tree):
                    self.assertEqual(node.level, 0)
                    package, module = node.module.split(".")
                    self.assertEqual(package, "satchelmeet")
                    defined = bound_names(ast.parse((FOLDER / (module + ".py")).read_text()))
                    for name in node.names:
                        self.assertIn(name.name, defined)

    def test_no_imports_in_a_round(self):
        needs = {}
        for path, text, tree in parsed():
            with self.subTest(path.name):
                needs[path.stem] = {node.module.split(".")[1] for node in imports(tree)}
        while needs:
            free = [name for name in needs if not needs[name] & set(needs)]
            self.assertTrue(free, needs)
            for name in free:
                del needs[name]

    def test_nodes(self):
        for path, text, tree in parsed():
            with self.subTest(path.name):
                for node in ast.walk(tree):
                    self.assertIn(type(node).__name__, NODES)
                    if isinstance(node, ast.Constant):
                        self.assertNotIsInstance(node.value, (float, complex))
                    if isinstance(node, (ast.For, ast.While)):
                        self.assertEqual(node.orelse, [])
                    if isinstance(node, ast.FunctionDef):
                        self.assertLessEqual(node.end_lineno - node.lineno + 1, 40, node.name)
                        self.assertEqual(node.decorator_list, [])
                        self.assertIsNone(node.args.vararg or node.args.kwarg)

    def test_module_level(self):
        for path, text, tree in parsed():
            with self.subTest(path.name):
                names = []
                for node in tree.body:
                    self.assertIn(type(node), [ast.Expr, ast.ImportFrom, ast.FunctionDef, ast.ClassDef, ast.Assign])
                    if isinstance(node, ast.Expr):
                        self.assertIs(node, tree.body[0])
                        self.assertIsInstance(node.value.value, str)
                    if isinstance(node, ast.ImportFrom):
                        names += [name.asname or name.name for name in node.names]
                    if isinstance(node, ast.Assign):
                        names += [target.id for target in node.targets]
                        self.assertFalse([part for part in ast.walk(node) if isinstance(part, ast.Call)])
                    if isinstance(node, (ast.FunctionDef, ast.ClassDef)):
                        names.append(node.name)
                self.assertEqual(len(names), len(set(names)))

    def test_names(self):
        for path, text, tree in parsed():
            with self.subTest(path.name):
                held = [name.name for node in imports(tree) for name in node.names]
                for name in bound_names(tree):
                    if not re.match(r"__(init|eq|repr|str|len)__$", name):
                        self.assertNotIn(name[0], "_")
                    self.assertNotIn(name, NAMES)
                    self.assertNotIn(name, held)
                    self.assertNotIn(name, dir(builtins))

    def test_builtins(self):
        for path, text, tree in parsed():
            with self.subTest(path.name):
                for node in ast.walk(tree):
                    if isinstance(node, ast.Name) and node.id in dir(builtins):
                        self.assertIn(node.id, BUILTINS)

    def test_methods(self):
        known = METHODS + own_methods()
        for path, text, tree in parsed():
            with self.subTest(path.name):
                for node in ast.walk(tree):
                    if isinstance(node, ast.Call) and isinstance(node.func, ast.Attribute):
                        self.assertIn(node.func.attr, known)

    def test_classes(self):
        assigned, read = set(), set()
        for path, text, tree in parsed():
            for node in ast.walk(tree):
                if isinstance(node, ast.Attribute):
                    (assigned if isinstance(node.ctx, ast.Store) else read).add(node.attr)
                if isinstance(node, ast.ClassDef):
                    with self.subTest(node.name):
                        self.assertIn(node, tree.body)
                        self.assertLessEqual(len(node.bases), 1)
                        self.assertEqual(node.keywords + node.decorator_list, [])
                        names = [part.name for part in node.body if isinstance(part, ast.FunctionDef)]
                        self.assertEqual(len(names), len(set(names)))
                        for part in node.body:
                            text_alone = isinstance(part, ast.Expr) and isinstance(part.value, ast.Constant)
                            self.assertTrue(isinstance(part, ast.FunctionDef) or text_alone)
        builtin_names = {name for kind in (str, int, list, dict, set, bytes, tuple) for name in dir(kind)}
        free = set("add discard append clear copy count extend find get index insert pop remove update".split())
        self.assertEqual(assigned & set(own_methods()), set())
        self.assertEqual(assigned & builtin_names, set())
        self.assertEqual({name for name in own_methods() if name[0] != "_"} & builtin_names - free, set())
        self.assertEqual(read - assigned - set(own_methods()) - set(METHODS), set())

    def test_raises(self):
        for path, text, tree in parsed():
            with self.subTest(path.name):
                for node in ast.walk(tree):
                    if isinstance(node, ast.Raise):
                        self.assertIsInstance(node.exc, ast.Call)
                        self.assertIsInstance(node.exc.func, ast.Name)
                    if isinstance(node, ast.ExceptHandler):
                        names = node.type.elts if isinstance(node.type, ast.Tuple) else [node.type]
                        for name in names:
                            self.assertIsInstance(name, ast.Name)
                            self.assertNotIn(name.id, ["Exception", "TypeError", "ValueError", "BaseException"])

    def test_iterated_on_the_spot(self):
        takers = "list tuple dict sorted sum any all enumerate zip bytes min max".split()
        for path, text, tree in parsed():
            with self.subTest(path.name):
                spots = []
                for node in ast.walk(tree):
                    if isinstance(node, (ast.For, ast.comprehension)):
                        spots.append(node.iter)
                    if isinstance(node, ast.Call) and isinstance(node.func, ast.Name):
                        if node.func.id in takers:
                            spots += node.args if node.func.id == "zip" else node.args[:1]
                        if node.func.id == "reversed" and ast.unparse(node.args[0]).startswith("range("):
                            spots.append(node.args[0])
                for node in ast.walk(tree):
                    if isinstance(node, ast.Call) and node not in spots:
                        name = node.func.attr if isinstance(node.func, ast.Attribute) else node.func.id
                        self.assertNotIn(name, "zip enumerate reversed range items keys values".split(), node.lineno)

    def test_sets(self):
        for path, text, tree in parsed():
            for function in ast.walk(tree):
                if isinstance(function, ast.FunctionDef):
                    with self.subTest(path.name + " " + function.name):
                        self.look_at_sets(function)

    def look_at_sets(self, function):
        right = []
        for node in ast.walk(function):
            if isinstance(node, ast.Assign) and isinstance(node.targets[0], ast.Name):
                right.append(node.value)
            if isinstance(node, ast.Compare):
                right += node.comparators + [node.left]
            if isinstance(node, ast.Call) and isinstance(node.func, ast.Name) and node.func.id in ("sorted", "len"):
                right += node.args
        for node in ast.walk(function):
            written = isinstance(node, ast.Call) and isinstance(node.func, ast.Name) and node.func.id in ("set", "frozenset")
            if written or isinstance(node, (ast.Set, ast.SetComp)):
                self.assertIn(node, right)

    def test_tables_are_only_read(self):
        for path, text, tree in parsed():
            tables = [node.targets[0].id for node in tree.body
                      if isinstance(node, ast.Assign) and isinstance(node.value, (ast.Dict, ast.List))]
            read = [node.value for node in ast.walk(tree) if isinstance(node, ast.Subscript) and isinstance(node.ctx, ast.Load)]
            read += [node.value for node in ast.walk(tree) if isinstance(node, ast.Attribute) and node.attr == "get"]
            for node in ast.walk(tree):
                with self.subTest(path.name):
                    if isinstance(node, ast.Name) and isinstance(node.ctx, ast.Load) and node.id in tables:
                        self.assertIn(node, read)
                    # What is in a table is called by a name of its own.
                    if isinstance(node, ast.Call):
                        self.assertIsInstance(node.func, (ast.Name, ast.Attribute))

    def test_is(self):
        for path, text, tree in parsed():
            with self.subTest(path.name):
                for node in ast.walk(tree):
                    if isinstance(node, ast.Compare):
                        for sign, right in zip(node.ops, node.comparators):
                            if isinstance(sign, (ast.Is, ast.IsNot)):
                                self.assertTrue(isinstance(right, ast.Constant) and right.value in (None, True, False))


if __name__ == "__main__":
    unittest.main()
