"""The package keeps to the small part of Python that its rules L1 to L28 allow, as far as a test sees it."""

import ast
import builtins
import pathlib
import re
import tokenize
import unittest

PACKAGE = pathlib.Path(__file__).resolve().parent.parent / "chancerydays"
ALLOWED = set(
    "len range enumerate zip min max sum abs sorted reversed int str bool list tuple dict set frozenset isinstance ord "
    "repr any all divmod Exception ValueError TypeError KeyError IndexError LookupError ZeroDivisionError "
    "ArithmeticError OverflowError RuntimeError NotImplementedError AttributeError StopIteration".split()
)
METHODS = set(
    "append clear copy count endswith extend find get index insert isalnum isalpha isdigit islower isspace isupper "
    "items join keys ljust lower lstrip partition pop remove replace reverse rfind rjust rpartition rsplit rstrip "
    "setdefault split splitlines startswith strip update upper values zfill bit_length".split()
)
NEVER = set("register mro elements open input version_info with_traceback add_note format format_map".split())
WORDS = (
    "type typing typing_extensions enum Enum IntEnum StrEnum Flag IntFlag Generic Protocol ABC ABCMeta namedtuple "
    "NamedTuple TypedDict TYPE_CHECKING abstractmethod"
).split()
FILE_NAMES = set("test tests testing site conftest sitecustomize usercustomize".split()) | set(WORDS) | set(dir(builtins))
STATEMENTS = (
    ast.Assign, ast.AugAssign, ast.If, ast.While, ast.For, ast.Return, ast.Break, ast.Continue, ast.Pass, ast.Raise, ast.Try,
    ast.Expr, ast.FunctionDef,
)
EXPRESSIONS = (
    ast.BinOp, ast.UnaryOp, ast.BoolOp, ast.Compare, ast.IfExp, ast.Call, ast.Attribute, ast.Subscript, ast.Slice,
    ast.ListComp, ast.Name, ast.Constant, ast.List, ast.Tuple, ast.Dict, ast.Lambda, ast.JoinedStr, ast.FormattedValue,
    ast.Set,
)
WALKERS = {"list", "tuple", "dict", "sorted", "sum", "any", "all", "enumerate", "zip", "min", "max"}
LAZY = {"zip", "enumerate", "reversed", "range", "items", "keys", "values"}
OWN_VALUES = {"count", "index", "title", "find", "get", "join", "lower", "upper", "split", "strip", "copy", "add"}
PLAIN = re.compile(r"[A-Za-z][A-Za-z0-9_]*")


def called(node):
    """The name by which a call calls."""
    if isinstance(node.func, ast.Name):
        return node.func.id
    return node.func.attr if isinstance(node.func, ast.Attribute) else ""


def is_plain(node, functions):
    """A value as it may be given to a name at a file's top."""
    if isinstance(node, ast.Constant):
        return isinstance(node.value, (int, str, type(None)))
    if isinstance(node, ast.Name):
        return node.id in functions
    if isinstance(node, (ast.List, ast.Tuple)):
        return all(is_plain(part, functions) for part in node.elts)
    return isinstance(node, ast.Dict) and all(is_plain(part, functions) for part in node.keys + node.values)


class Source:
    def __init__(self, path):
        self.path = path
        self.text = path.read_text(encoding="utf-8")
        self.tree = ast.parse(self.text)
        self.imports = [node for node in self.tree.body if isinstance(node, ast.ImportFrom)]
        self.drawn = [alias.name for node in self.imports for alias in node.names]
        self.functions = [node.name for node in self.tree.body if isinstance(node, ast.FunctionDef)]
        self.classes = [node.name for node in self.tree.body if isinstance(node, ast.ClassDef)]
        self.values = [node.targets[0].id for node in self.tree.body if isinstance(node, ast.Assign)]
        self.defs = [node for node in ast.walk(self.tree) if isinstance(node, ast.FunctionDef)]

    def nodes(self, *kinds):
        return [node for node in ast.walk(self.tree) if isinstance(node, kinds)]


SOURCES = {path.stem: Source(path) for path in sorted(PACKAGE.glob("*.py"))}


def locals_of(function):
    names = [argument.arg for argument in function.args.args]
    stored = [node.id for node in ast.walk(function) if isinstance(node, ast.Name) and isinstance(node.ctx, ast.Store)]
    return set(names + stored)


def each_file(check):
    """A test that makes the check on each file of the package."""
    def test(self):
        for name, source in SOURCES.items():
            with self.subTest(file=name):
                check(self, source)
    return test


class LanguageTest(unittest.TestCase):
    def test_files(self):
        things = [path for path in PACKAGE.iterdir() if path.name != "__pycache__"]
        self.assertEqual(sorted(path.stem for path in things if path.suffix == ".py"), sorted(SOURCES))
        self.assertEqual(len(things), len(SOURCES))
        self.assertIn("__init__", SOURCES)
        for name in SOURCES:
            self.assertTrue(name == "__init__" or re.fullmatch("[a-z][a-z0-9_]*", name), name)
            self.assertNotIn(name, FILE_NAMES)
            self.assertFalse(name.startswith("test_"))

    @each_file
    def test_signs_and_size(self, source):
        self.assertTrue(all(sign == "\n" or " " <= sign <= "~" for sign in source.text))
        lines = source.text.split("\n")
        self.assertLessEqual(len(lines), 400)
        self.assertLessEqual(max(map(len, lines)), 120)
        for node in source.defs:
            self.assertLessEqual(node.end_lineno - node.lineno + 1, 40, node.name)

    @each_file
    def test_words(self, source):
        for word in WORDS:
            self.assertIsNone(re.search(rf"\b{word}\b", source.text), word)
        for part in ("dataclass", "overload", "contextmanager"):
            self.assertNotIn(part, source.text)
        with tokenize.open(source.path) as lines:
            for token in tokenize.generate_tokens(lines.readline):
                if token.type == tokenize.STRING:
                    self.assertNotIn("%", token.string)

    @each_file
    def test_imports(self, source):
        self.assertEqual(len(source.nodes(ast.Import, ast.ImportFrom)), len(source.imports))
        for node in source.imports:
            self.assertEqual((node.level, node.module.split(".")[:-1]), (0, ["chancerydays"]))
            drawn_from = SOURCES[node.module.split(".")[1]]
            for alias in node.names:
                self.assertIsNone(alias.asname)
                self.assertIn(alias.name, drawn_from.functions + drawn_from.classes + drawn_from.values)

    def test_no_two_files_draw_from_one_another(self):
        draws = {name: {node.module.split(".")[1] for node in source.imports} for name, source in SOURCES.items()}
        while draws:
            last = [name for name, others in draws.items() if not others & set(draws)]
            self.assertTrue(last, draws)
            for name in last:
                draws.pop(name)

    @each_file
    def test_top_of_a_file(self, source):
        self.assertIsNotNone(ast.get_docstring(source.tree))
        functions = []
        for node in source.tree.body[1:]:
            self.assertIsInstance(node, (ast.ImportFrom, ast.FunctionDef, ast.ClassDef, ast.Assign))
            if isinstance(node, ast.FunctionDef):
                functions.append(node.name)
            if isinstance(node, ast.Assign):
                self.assertTrue(is_plain(node.value, functions), ast.unparse(node))
                self.assertFalse(isinstance(node.value, ast.Name))
                parts = getattr(node.value, "elts", []) + getattr(node.value, "values", [])
                self.assertFalse(any(isinstance(part, (ast.List, ast.Dict)) for part in parts))
        names = source.drawn + source.functions + source.classes + source.values
        self.assertEqual(len(names), len(set(names)))

    @each_file
    def test_functions_and_classes(self, source):
        for node in source.defs:
            given = node.args
            self.assertFalse(node.decorator_list or given.vararg or given.kwarg or given.kwonlyargs or given.posonlyargs)
        for node in source.nodes(ast.ClassDef):
            self.assertIn(node, source.tree.body)
            self.assertLessEqual(len(node.bases), 1)
            self.assertFalse(node.decorator_list or node.keywords)
            for part in node.body:
                docstring = isinstance(part, ast.Expr) and isinstance(part.value, ast.Constant)
                self.assertTrue(docstring or isinstance(part, ast.FunctionDef))

    @each_file
    def test_statements_and_expressions(self, source):
        for function in source.defs:
            for node in ast.walk(function):
                if isinstance(node, ast.stmt):
                    self.assertIsInstance(node, STATEMENTS)
                if isinstance(node, ast.expr):
                    self.assertIsInstance(node, EXPRESSIONS)
                    self.assertFalse(isinstance(getattr(node, "value", None), (float, bytes)))
                if isinstance(node, (ast.For, ast.While)):
                    self.assertFalse(node.orelse)
                if isinstance(node, ast.Assign):
                    self.assertEqual(len(node.targets), 1)
                    self.assertNotIsInstance(node.targets[0], (ast.Tuple, ast.List))
                if isinstance(node, ast.BinOp):
                    self.assertNotIsInstance(node.op, (ast.Div, ast.MatMult))
                    self.assertFalse(isinstance(node.op, ast.Pow) and not isinstance(node.right, ast.Constant))
                if isinstance(node, ast.ListComp):
                    self.assertEqual(len(node.generators), 1)
                    self.assertLessEqual(len(node.generators[0].ifs), 1)
                if isinstance(node, ast.Compare) and any(isinstance(op, (ast.Is, ast.IsNot)) for op in node.ops):
                    self.assertIsInstance(node.comparators[0], ast.Constant)

    @each_file
    def test_names(self, source):
        known = set(source.drawn + source.functions + source.classes + source.values)
        self.assertFalse(known & (set(dir(builtins)) | NEVER))
        for function in source.defs:
            own = locals_of(function)
            self.assertFalse(own & (set(dir(builtins)) | NEVER | set(source.drawn + source.classes)), function.name)
            for node in ast.walk(function):
                if isinstance(node, ast.Name):
                    self.assertIsNotNone(PLAIN.fullmatch(node.id))
                    self.assertIn(node.id, own | known | ALLOWED)
        for name in known:
            self.assertIsNotNone(PLAIN.fullmatch(name))

    @each_file
    def test_attributes(self, source):
        taken = {name for value in ("", 0, [], {}, set(), b"") for name in dir(value)}
        methods = {node.name for source in SOURCES.values() for node in source.defs if node.name not in source.functions}
        calls = [node.func for node in source.nodes(ast.Call)]
        for node in source.nodes(ast.Attribute):
            self.assertNotIn(node.attr, NEVER)
            if node in calls:
                self.assertIn(node.attr, METHODS | methods)
            else:
                self.assertNotIn(node.attr, methods)
                self.assertTrue(node.attr in OWN_VALUES or node.attr not in taken, node.attr)

    @each_file
    def test_walked_at_once(self, source):
        walked = [node.iter for node in source.nodes(ast.For, ast.comprehension)]
        walked += [node.args[0] for node in source.nodes(ast.Call) if node.args and called(node) in WALKERS]
        for node in source.nodes(ast.Call):
            if called(node) in LAZY:
                self.assertIn(node, walked, ast.unparse(node))

    @each_file
    def test_lists_and_dicts_of_the_top_are_only_read(self, source):
        kept = {
            node.targets[0].id for node in source.tree.body
            if isinstance(node, ast.Assign) and isinstance(node.value, (ast.List, ast.Dict))
        }
        for function in source.defs:
            for node in ast.walk(function):
                if isinstance(node, ast.Subscript) and isinstance(node.value, ast.Name) and node.value.id in kept:
                    self.assertIsInstance(node.ctx, ast.Load)
                if isinstance(node, (ast.Return, ast.Assign)) and isinstance(node.value, ast.Name):
                    self.assertNotIn(node.value.id, kept)
                if isinstance(node, ast.Call):
                    names = {argument.id for argument in node.args if isinstance(argument, ast.Name)}
                    self.assertTrue(not names & kept or called(node) in ("len", "list", "dict", "sorted"))


if __name__ == "__main__":
    unittest.main()
