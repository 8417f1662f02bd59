"""The rules of the language that can be seen in the package's files, named by their numbers."""

import ast
import builtins
import pathlib
import re
import unittest

PACKAGE = pathlib.Path(__file__).resolve().parent.parent / "windowstepsdesk"
FILES = sorted(PACKAGE.glob("*.py"))

STATEMENTS = (ast.Module, ast.FunctionDef, ast.ClassDef, ast.ImportFrom, ast.Assign, ast.AugAssign, ast.If, ast.While,
              ast.For, ast.Return, ast.Break, ast.Continue, ast.Pass, ast.Raise, ast.Try, ast.ExceptHandler, ast.Expr)
VALUES = (ast.Constant, ast.Name, ast.List, ast.Tuple, ast.Dict, ast.BinOp, ast.UnaryOp, ast.BoolOp, ast.Compare,
          ast.IfExp, ast.Call, ast.Attribute, ast.Subscript, ast.Slice, ast.ListComp, ast.comprehension, ast.JoinedStr,
          ast.FormattedValue, ast.Lambda, ast.arguments, ast.arg, ast.keyword, ast.alias)
SIGNS = (ast.expr_context, ast.operator, ast.unaryop, ast.boolop, ast.cmpop)

OWN_NAMES_OF_PYTHON = """len range enumerate zip min max sum abs sorted reversed int str bool list tuple dict set
    frozenset isinstance ord repr any all divmod Exception ValueError TypeError KeyError IndexError LookupError
    ZeroDivisionError ArithmeticError OverflowError RuntimeError NotImplementedError AttributeError
    StopIteration""".split()
METHODS_OF_PYTHON = """append clear copy count endswith extend find get index insert isalnum isalpha isdigit islower
    isspace isupper items join keys ljust lower lstrip partition pop remove replace reverse rfind rjust rpartition
    rsplit rstrip setdefault split splitlines startswith strip update upper values zfill bit_length""".split()
UNUSED_NAMES = """register mro elements open input version_info with_traceback add_note attrgetter breakpoint builtins
    compile copyright credits delattr dir eval exec exit gc getattr globals hasattr help id importlib license locals
    methodcaller os quit setattr super type vars sys""".split()
UNUSED_WORDS = """type typing typing_extensions enum Enum IntEnum StrEnum Flag IntFlag Generic Protocol ABC ABCMeta
    namedtuple NamedTuple TypedDict TYPE_CHECKING abstractmethod""".split()


def trees():
    return [(path, ast.parse(path.read_text(encoding="utf-8"))) for path in FILES]


def nodes(*kinds):
    return [(path, node) for path, tree in trees() for node in ast.walk(tree) if isinstance(node, kinds)]


def defined(tree):
    return [node.name for node in tree.body if isinstance(node, (ast.FunctionDef, ast.ClassDef))]


def given_at_top(tree):
    return [target.id for node in tree.body if isinstance(node, ast.Assign) for target in node.targets]


class Files(unittest.TestCase):

    def test_L1_L14_only_plain_files(self):
        self.assertIn(PACKAGE / "__init__.py", FILES)
        for path in PACKAGE.rglob("*"):
            if "__pycache__" not in path.parts:
                self.assertEqual(path.parent, PACKAGE)
                self.assertRegex(path.name, r"^(__init__|[a-z][a-z0-9_]*)\.py$")
                self.assertNotIn(path.stem, dir(builtins))

    def test_L10_L14_sizes_and_signs(self):
        for path in FILES:
            text = path.read_text(encoding="utf-8")
            self.assertLessEqual(len(text.split("\n")), 400, path)
            self.assertLessEqual(max(len(line) for line in text.split("\n")), 120, path)
            self.assertEqual(re.findall(r"[^ -~\n]", text), [], path)

    def test_L10_functions(self):
        for path, node in nodes(ast.FunctionDef):
            self.assertLessEqual(node.end_lineno - node.lineno + 1, 40, (path, node.name))

    def test_L17_words(self):
        for path in FILES:
            text = path.read_text(encoding="utf-8")
            words = re.findall(r"[A-Za-z0-9_]+", text)
            self.assertEqual(set(words) & set(UNUSED_WORDS), set(), path)
            self.assertNotRegex(text, "dataclass|overload|contextmanager")


class Rows(unittest.TestCase):

    def test_L6_L7_only_these_forms(self):
        for path, node in nodes(ast.AST):
            self.assertIsInstance(node, STATEMENTS + VALUES + SIGNS, (path, getattr(node, "lineno", 0)))
            self.assertNotIsInstance(node, (ast.Div, ast.MatMult, ast.Pow), path)

    def test_L2_L16_imports(self):
        tops = {path.stem: defined(tree) + given_at_top(tree) for path, tree in trees()}
        drawn = {stem: set() for stem in tops}
        for path, node in nodes(ast.ImportFrom):
            package, stem = node.module.split(".")
            self.assertEqual((package, node.level), ("windowstepsdesk", 0))
            drawn[path.stem].add(stem)
            for name in node.names:
                self.assertIn(name.name, tops[stem], path)
                self.assertIsNone(name.asname)
        while drawn:
            free = [stem for stem in drawn if not drawn[stem] & set(drawn)]
            self.assertNotEqual(free, [], "files that draw from one another")
            drawn = {stem: drawn[stem] for stem in drawn if stem not in free}

    def test_L3_L15_tops(self):
        for path, tree in trees():
            self.assertIsNotNone(ast.get_docstring(tree), path)
            names = defined(tree) + given_at_top(tree)
            self.assertEqual(len(names), len(set(names)), path)
            for node in tree.body[1:]:
                self.assertIsInstance(node, (ast.ImportFrom, ast.FunctionDef, ast.ClassDef, ast.Assign), path)

    def test_L16_the_interface(self):
        for path, tree in trees():
            self.assertEqual("answers" in defined(tree), path.stem == "desk", path)

    def test_L4_L5_plain_defs_and_classes(self):
        for path, node in nodes(ast.FunctionDef, ast.ClassDef):
            self.assertEqual(node.decorator_list, [], (path, node.name))
        for path, node in nodes(ast.arguments):
            self.assertEqual((node.vararg, node.kwarg, node.kwonlyargs, node.posonlyargs), (None, None, [], []), path)

    def test_L8_L12_L15_names(self):
        for path, tree in trees():
            imported = {name.name for node in tree.body if isinstance(node, ast.ImportFrom) for name in node.names}
            known = set(OWN_NAMES_OF_PYTHON) | imported | set(defined(tree)) | set(given_at_top(tree))
            for function in [node for node in ast.walk(tree) if isinstance(node, ast.FunctionDef)]:
                bound = {node.arg for node in ast.walk(function) if isinstance(node, ast.arg)}
                read = set()
                for node in [node for node in ast.walk(function) if isinstance(node, ast.Name)]:
                    (bound if isinstance(node.ctx, ast.Store) else read).add(node.id)
                self.assertEqual(read - known - bound, set(), (path, function.name))
                self.assertEqual(bound & (set(dir(builtins)) | imported), set(), (path, function.name))
                for name in bound | {function.name} - {"__init__"}:
                    self.assertRegex(name, r"^[A-Za-z][A-Za-z0-9_]*$", path)
                    self.assertNotIn(name, UNUSED_NAMES, path)

    def test_L17_L25_L26_methods_and_values(self):
        methods = {node.name for path, tree in trees() for kind in tree.body if isinstance(kind, ast.ClassDef)
                   for node in kind.body if isinstance(node, ast.FunctionDef)}
        values = {node.attr for path, node in nodes(ast.Attribute) if isinstance(node.ctx, ast.Store)}
        self.assertEqual(methods & values, set())
        for path, node in nodes(ast.Attribute):
            self.assertIn(node.attr, methods | values | set(METHODS_OF_PYTHON), path)
            self.assertNotIn(node.attr, UNUSED_NAMES, path)
        for name in (methods | values) - {"__init__"}:
            for plain in (str, int, list, tuple, dict, set, bytes):
                self.assertFalse(hasattr(plain, name), name)


if __name__ == "__main__":
    unittest.main()
