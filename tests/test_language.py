"""The package's files keep to the rules of ../shared/LANGUAGE.md that can be read off their form."""

import ast
import builtins
import pathlib
import re
import unittest

PACKAGE = pathlib.Path(__file__).resolve().parent.parent / "beamtender"

CALLED = set(
    "len range enumerate zip min max sum abs sorted reversed int str bool list tuple dict set frozenset isinstance ord "
    "repr any all divmod Exception ValueError TypeError KeyError IndexError LookupError ZeroDivisionError "
    "ArithmeticError OverflowError RuntimeError NotImplementedError AttributeError StopIteration".split()
)
BANNED_WORDS = re.compile(
    r"\b(type|typing|typing_extensions|enum|Enum|IntEnum|StrEnum|Flag|IntFlag|Generic|Protocol|ABC|ABCMeta|namedtuple"
    r"|NamedTuple|TypedDict|TYPE_CHECKING|abstractmethod)\b|dataclass|overload|contextmanager"
)
BANNED_NAMES = set("register mro elements open input version_info with_traceback add_note".split())
BANNED_FORMS = (
    ast.With, ast.Match, ast.Delete, ast.Global, ast.Nonlocal, ast.Assert, ast.Yield, ast.YieldFrom, ast.AsyncFor,
    ast.AsyncFunctionDef, ast.AsyncWith, ast.Await, ast.SetComp, ast.DictComp, ast.GeneratorExp, ast.NamedExpr,
    ast.Starred, ast.Div, ast.Import, ast.AnnAssign,
)
METHODS = set(
    "append clear copy count endswith extend find get index insert isalnum isalpha isdigit islower isspace isupper "
    "items join keys ljust lower lstrip partition pop remove replace reverse rfind rjust rpartition rsplit rstrip "
    "setdefault split splitlines startswith strip update upper values zfill bit_length".split()
)
OTHERS_NAMES = set(dir(str) + dir(int) + dir(list) + dir(dict) + dir(set) + dir(bytes))
UNDERSCORED = set("__init__ __eq__ __repr__ __str__ __len__ __all__ __version__".split())


def sources():
    return sorted(PACKAGE.rglob("*.py"))


def names_in(node):
    if isinstance(node, ast.Name):
        return [node.id]
    if isinstance(node, ast.Attribute):
        return [node.attr]
    if isinstance(node, ast.arg):
        return [node.arg]
    if isinstance(node, (ast.FunctionDef, ast.ClassDef)):
        return [node.name]
    return []


def is_plain(node):
    return not any(isinstance(part, (ast.Call, ast.Attribute, ast.Lambda, ast.ListComp)) for part in ast.walk(node))


def parsed():
    return [(path, ast.parse(path.read_text(encoding="utf-8"))) for path in sources()]


def defined(tree):
    """The names that the file itself binds at its top: its defs, classes and plain values."""
    found = [node.name for node in tree.body if isinstance(node, (ast.FunctionDef, ast.ClassDef))]
    return found + [node.targets[0].id for node in tree.body if isinstance(node, ast.Assign)]


def drawn(tree):
    """For each module that the file draws from, the names it draws."""
    return {node.module: [alias.name for alias in node.names] for node in tree.body if isinstance(node, ast.ImportFrom)}


def locals_in(tree):
    return [name for node in ast.walk(tree) for name in names_in(node) if isinstance(node, ast.arg) or (
        isinstance(node, ast.Name) and isinstance(node.ctx, ast.Store) and node not in tops(tree))]


def tops(tree):
    return [node.targets[0] for node in tree.body if isinstance(node, ast.Assign)]


class Language(unittest.TestCase):
    def each_node(self, check):
        for path in sources():
            for node in ast.walk(ast.parse(path.read_text(encoding="utf-8"))):
                with self.subTest(file=path.name, line=getattr(node, "lineno", 0)):
                    check(node)

    def test_files(self):
        self.assertTrue((PACKAGE / "__init__.py").is_file())
        for path in PACKAGE.rglob("*"):
            if "__pycache__" not in path.parts:
                self.assertRegex(path.name, r"^[a-z0-9_]+\.py$")

    def test_signs_and_sizes(self):
        for path in sources():
            text = path.read_text(encoding="utf-8")
            self.assertRegex(text, r"\A[ -~\n]*\Z", path.name)
            self.assertIsNone(BANNED_WORDS.search(text), path.name)
            rows = text.splitlines()
            self.assertLessEqual(len(rows), 400, path.name)
            self.assertLessEqual(max(map(len, rows), default=0), 120, path.name)

    def test_forms(self):
        self.each_node(self.check_form)

    def check_form(self, node):
        self.assertNotIsInstance(node, BANNED_FORMS)
        if isinstance(node, ast.Constant):
            self.assertNotIsInstance(node.value, (float, complex, bytes))
        if isinstance(node, ast.Assign):
            self.assertEqual(len(node.targets), 1)
        if isinstance(node, (ast.For, ast.While)):
            self.assertEqual(node.orelse, [])
        if isinstance(node, ast.Try):
            self.assertEqual(node.finalbody, [])

    def test_defs(self):
        self.each_node(self.check_def)

    def check_def(self, node):
        if isinstance(node, (ast.FunctionDef, ast.ClassDef)):
            self.assertEqual(node.decorator_list, [])
        if isinstance(node, ast.FunctionDef):
            self.assertLessEqual(node.end_lineno - node.lineno + 1, 40)
            handed = node.args
            self.assertEqual((handed.vararg, handed.kwarg, handed.kwonlyargs), (None, None, []))
        if isinstance(node, ast.ClassDef):
            self.assertLessEqual(len(node.bases), 1)
            for part in node.body:
                self.assertNotIsInstance(part, ast.Assign)

    def test_names(self):
        self.each_node(self.check_names)

    def check_names(self, node):
        builtin = set(dir(builtins))
        for name in names_in(node):
            self.assertNotIn(name, BANNED_NAMES)
            if name not in UNDERSCORED:
                self.assertRegex(name, r"^[A-Za-z][A-Za-z0-9_]*$")
            if isinstance(node, ast.Name) and name in builtin:
                self.assertIn(name, CALLED)
                self.assertIsInstance(node.ctx, ast.Load)
            if isinstance(node, ast.arg):
                self.assertNotIn(name, builtin)

    def test_imports(self):
        self.each_node(self.check_import)

    def check_import(self, node):
        if isinstance(node, ast.ImportFrom) and node.module != "__future__":
            self.assertEqual(node.level, 0)
            self.assertRegex(node.module, r"^beamtender\.[a-z_]+$")
            self.assertNotIn("*", [alias.name for alias in node.names])

    def test_names_are_drawn_from_the_file_that_defines_them(self):
        own = {"beamtender." + path.stem: defined(tree) for path, tree in parsed()}
        for path, tree in parsed():
            for module, names in drawn(tree).items():
                with self.subTest(file=path.name, module=module):
                    self.assertLessEqual(set(names), set(own[module]))

    def test_no_two_files_draw_from_one_another(self):
        ahead = {"beamtender." + path.stem: set(drawn(tree)) for path, tree in parsed()}
        while ahead:
            ready = [module for module in ahead if not ahead[module] & set(ahead)]
            self.assertTrue(ready, ahead)
            for module in ready:
                ahead.pop(module)

    def test_locals(self):
        for path, tree in parsed():
            taken = {node.name for node in tree.body if isinstance(node, ast.ClassDef)} | set(dir(builtins))
            for names in drawn(tree).values():
                taken |= set(names)
            self.assertEqual(set(locals_in(tree)) & taken, set(), path.name)

    def test_methods_and_values(self):
        classes = [node for path, tree in parsed() for node in tree.body if isinstance(node, ast.ClassDef)]
        methods = [part.name for node in classes for part in node.body if part.name != "__init__"]
        values = [part.attr for node in classes for part in ast.walk(node)
                  if isinstance(part, ast.Attribute) and isinstance(part.ctx, ast.Store)]
        self.assertEqual(set(methods) & set(values), set())
        self.assertEqual((set(methods) | set(values)) & OTHERS_NAMES, set())
        for path, tree in parsed():
            for node in ast.walk(tree):
                if isinstance(node, ast.Call) and isinstance(node.func, ast.Attribute):
                    with self.subTest(file=path.name, line=node.lineno):
                        self.assertIn(node.func.attr, METHODS | set(methods) | {"__init__"})

    def test_expressions(self):
        self.each_node(self.check_expression)

    def check_expression(self, node):
        if isinstance(node, ast.ListComp):
            self.assertEqual(len(node.generators), 1)
            self.assertLessEqual(len(node.generators[0].ifs), 1)
        if isinstance(node, ast.FormattedValue):
            self.assertIsInstance(node.value, ast.Name)
            self.assertIsNone(node.format_spec)
        if isinstance(node, ast.Compare) and isinstance(node.ops[0], (ast.Is, ast.IsNot)):
            self.assertIsInstance(node.comparators[0], ast.Constant)
            self.assertIn(node.comparators[0].value, (None, True, False))
        if isinstance(node, ast.Constant) and isinstance(node.value, str):
            self.assertNotIn("%", node.value)
        if isinstance(node, ast.ExceptHandler):
            self.assertIsInstance(node.type, ast.Name)
            self.assertNotIn(node.type.id, ("Exception", "TypeError"))
        if isinstance(node, ast.Raise):
            self.assertIsInstance(node.exc, ast.Call)

    def test_tops(self):
        for path in sources():
            bound = []
            for node in ast.parse(path.read_text(encoding="utf-8")).body:
                with self.subTest(file=path.name, line=node.lineno):
                    self.assertIsInstance(
                        node, (ast.Expr, ast.ImportFrom, ast.FunctionDef, ast.ClassDef, ast.Assign))
                    if isinstance(node, ast.Expr):
                        self.assertIsInstance(node.value, ast.Constant)
                    if isinstance(node, ast.Assign):
                        self.assertTrue(is_plain(node.value))
                        bound.extend(names_in(node.targets[0]))
                    bound.extend(names_in(node))
                    if isinstance(node, ast.ImportFrom):
                        bound.extend(alias.asname or alias.name for alias in node.names)
            self.assertEqual(len(bound), len(set(bound)), path.name)


if __name__ == "__main__":
    unittest.main()
