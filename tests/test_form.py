"""Those rules of the language for the package's files that a plain look at them can tell."""

import ast
import builtins
import re
import unittest
from pathlib import Path

PACKAGE = Path(__file__).resolve().parent.parent / "wordthirtysix"
FILES = sorted(PACKAGE.rglob("*.py"))

BARRED_NODES = (
    ast.With, ast.Match, ast.Delete, ast.Global, ast.Nonlocal, ast.Assert, ast.Yield, ast.YieldFrom,
    ast.AsyncFunctionDef, ast.AsyncFor, ast.AsyncWith, ast.Await, ast.Div, ast.SetComp, ast.DictComp,
    ast.GeneratorExp, ast.NamedExpr, ast.Starred, ast.Import,
)
BARRED_WORDS = re.compile(
    r"\b(type|typing|typing_extensions|enum|Enum|IntEnum|StrEnum|Flag|IntFlag|Generic|Protocol|ABC|ABCMeta"
    r"|namedtuple|NamedTuple|TypedDict|TYPE_CHECKING|abstractmethod)\b|dataclass|overload|contextmanager"
)
ALLOWED_BUILTINS = set(
    "len range enumerate zip min max sum abs sorted reversed int str bool list tuple dict set frozenset"
    " isinstance ord repr any all divmod Exception ValueError TypeError KeyError IndexError LookupError"
    " ZeroDivisionError ArithmeticError OverflowError RuntimeError NotImplementedError AttributeError"
    " StopIteration".split()
)
PYTHONS_OWN = set(dir(builtins))
NOT_USED = set(
    "register mro elements open input version_info with_traceback add_note attrgetter breakpoint builtins compile"
    " copyright credits delattr dir eval exec exit gc getattr globals hasattr help id importlib license locals"
    " methodcaller os quit setattr super type vars sys".split()
)
METHODS_OF_VALUES = {"append", "bit_length"}
NAMED = ((ast.Name, "id"), (ast.Attribute, "attr"), (ast.arg, "arg"), (ast.FunctionDef, "name"), (ast.ClassDef, "name"))


def name_of(node):
    for kind, part in NAMED:
        if isinstance(node, kind):
            return getattr(node, part)
    return ""


def drawn_from(text):
    """The package's files that a file imports from."""
    rows = [node for node in ast.parse(text).body if isinstance(node, ast.ImportFrom)]
    return [row.module.split(".")[1] for row in rows]


class FormTest(unittest.TestCase):
    def for_each_file(self, look):
        self.assertTrue(FILES)
        for path in FILES:
            with self.subTest(file=path.name):
                look(path.read_text(encoding="utf-8"))

    def for_each_node(self, look):
        def look_at_all(text):
            for node in ast.walk(ast.parse(text)):
                look(node)
        self.for_each_file(look_at_all)

    def test_only_python_files_lie_there(self):
        there = [path for path in PACKAGE.rglob("*") if "__pycache__" not in path.parts]
        self.assertEqual(sorted(path for path in there if path.is_file()), FILES)
        self.assertIn(PACKAGE / "__init__.py", FILES)

    def test_signs_and_rows(self):
        def look(text):
            self.assertTrue(all(sign == "\n" or " " <= sign <= "~" for sign in text))
            rows = text.splitlines()
            self.assertLessEqual(len(rows), 400)
            self.assertLessEqual(max(len(row) for row in rows), 120)
        self.for_each_file(look)

    def test_functions_are_small(self):
        def look(node):
            if isinstance(node, ast.FunctionDef):
                self.assertLessEqual(node.end_lineno - node.lineno + 1, 40, node.name)
        self.for_each_node(look)

    def test_words(self):
        self.for_each_file(lambda text: self.assertIsNone(BARRED_WORDS.search(text)))

    def test_statements_and_expressions(self):
        def look(node):
            self.assertNotIsInstance(node, BARRED_NODES)
            self.assertFalse(getattr(node, "decorator_list", []))
            self.assertFalse(isinstance(node, (ast.For, ast.While)) and node.orelse)
            self.assertFalse(isinstance(node, ast.Try) and node.finalbody)
            self.assertFalse(isinstance(node, ast.Constant) and isinstance(node.value, (float, bytes)))
        self.for_each_node(look)

    def test_imports_are_the_packages_own(self):
        def look(node):
            if isinstance(node, ast.ImportFrom):
                self.assertEqual(node.level, 0)
                self.assertTrue(node.module.startswith("wordthirtysix."))
        self.for_each_node(look)

    def test_names(self):
        def look(node):
            name = name_of(node)
            self.assertTrue(name == "__init__" or not name.startswith("_"), name)
            self.assertNotIn(name, NOT_USED)
            if isinstance(node, ast.Name) and name in PYTHONS_OWN:
                self.assertIn(name, ALLOWED_BUILTINS)
                self.assertIsInstance(node.ctx, ast.Load)
        self.for_each_node(look)

    def test_one_target_in_an_assignment(self):
        def look(node):
            if isinstance(node, ast.Assign):
                self.assertEqual(len(node.targets), 1)
                self.assertNotIsInstance(node.targets[0], (ast.Tuple, ast.List))
        self.for_each_node(look)

    def test_the_top_holds_plain_values_bound_once(self):
        def look(text):
            body = ast.parse(text).body
            names = [node.targets[0].id for node in body if isinstance(node, ast.Assign)]
            names += [node.name for node in body if isinstance(node, (ast.FunctionDef, ast.ClassDef))]
            names += [alias.name for node in body if isinstance(node, ast.ImportFrom) for alias in node.names]
            self.assertEqual(len(names), len(set(names)))
            for node in body:
                if isinstance(node, ast.Assign):
                    ast.literal_eval(node.value)
        self.for_each_file(look)

    def test_no_local_is_called_like_an_import_a_class_or_pythons_own(self):
        def look(text):
            tree = ast.parse(text)
            barred = {alias.name for node in tree.body if isinstance(node, ast.ImportFrom) for alias in node.names}
            barred |= {node.name for node in tree.body if isinstance(node, ast.ClassDef)} | PYTHONS_OWN
            for outer in [node for node in ast.walk(tree) if isinstance(node, ast.FunctionDef)]:
                for node in ast.walk(outer):
                    if isinstance(node, ast.arg) or isinstance(node, ast.Name) and isinstance(node.ctx, ast.Store):
                        self.assertNotIn(name_of(node), barred)
        self.for_each_file(look)

    def test_methods(self):
        own = set()
        for path in FILES:
            for node in ast.walk(ast.parse(path.read_text(encoding="utf-8"))):
                if isinstance(node, ast.ClassDef):
                    own |= {part.name for part in node.body if isinstance(part, ast.FunctionDef)}

        def look(node):
            if isinstance(node, ast.Call) and isinstance(node.func, ast.Attribute):
                self.assertIn(node.func.attr, own | METHODS_OF_VALUES)
        self.for_each_node(look)

    def test_no_two_files_draw_from_one_another(self):
        drawn = {path.stem: drawn_from(path.read_text(encoding="utf-8")) for path in FILES}
        for name in drawn:
            behind = list(drawn[name])
            for other in behind:
                behind += [further for further in drawn[other] if further not in behind]
            self.assertNotIn(name, behind)


if __name__ == "__main__":
    unittest.main()
