"""The rules of the language that can be seen in the package's files by themselves."""

import ast
import re
import unittest
from pathlib import Path

PACKAGE = Path(__file__).resolve().parent.parent / "neverwait"
BUILTINS = set("""len range enumerate zip min max sum abs sorted reversed int str bool bytes list tuple dict set
    frozenset isinstance ord repr any all divmod Exception ValueError TypeError KeyError IndexError LookupError
    ZeroDivisionError ArithmeticError OverflowError RuntimeError NotImplementedError AttributeError
    StopIteration""".split())
ALL_BUILTINS = set(dir(__builtins__) if not isinstance(__builtins__, dict) else __builtins__)
BUILTIN_METHODS = set("""append clear copy count endswith extend find get index insert isalnum isalpha isdigit islower
    isspace isupper items join keys ljust lower lstrip partition pop remove replace reverse rfind rjust rpartition
    rsplit rstrip setdefault split splitlines startswith strip update upper values zfill bit_length title capitalize
    swapcase casefold center expandtabs removeprefix removesuffix rindex isascii isdecimal isnumeric istitle
    isidentifier isprintable translate sort add discard""".split())
BARRED_WORDS = re.compile(r"\b(type|typing|typing_extensions|enum|Enum|IntEnum|StrEnum|Flag|IntFlag|Generic|Protocol|"
                          r"ABC|ABCMeta|namedtuple|NamedTuple|TypedDict|TYPE_CHECKING|abstractmethod)\b|"
                          r"dataclass|overload|contextmanager")
BARRED_NAMES = set("""register mro elements open input version_info with_traceback add_note attrgetter breakpoint
    builtins compile copyright credits delattr dir eval exec exit gc getattr globals hasattr help id importlib license
    locals methodcaller os quit setattr super type vars sys""".split())
BARRED_NODES = (ast.With, ast.AsyncWith, ast.Match, ast.Global, ast.Nonlocal, ast.Yield, ast.YieldFrom, ast.Await,
                ast.AsyncFor, ast.AsyncFunctionDef, ast.GeneratorExp, ast.NamedExpr, ast.Div,
                ast.MatMult, ast.Import)
DUNDERS = ("__init__", "__eq__", "__repr__", "__str__", "__len__")


def files():
    return sorted(PACKAGE.glob("*.py"))


def trees():
    return [(path.name, ast.parse(path.read_text())) for path in files()]


def nodes(tree, *kinds):
    return [node for node in ast.walk(tree) if isinstance(node, kinds)]


def classes():
    return [node for name, tree in trees() for node in nodes(tree, ast.ClassDef)]


def method_names():
    return [part.name for node in classes() for part in node.body if isinstance(part, ast.FunctionDef)]


def attribute_names():
    return [node.attr for name, tree in trees() for node in nodes(tree, ast.Attribute)
            if isinstance(node.ctx, ast.Store)]


def bound_names(tree):
    """What a file's functions, parameters and variables are called."""
    return ([node.id for node in nodes(tree, ast.Name) if isinstance(node.ctx, ast.Store)]
            + [node.arg for node in nodes(tree, ast.arg)]
            + [node.name for node in nodes(tree, ast.FunctionDef, ast.ClassDef)])


class Language(unittest.TestCase):

    def test_files(self):
        self.assertIn("__init__.py", [path.name for path in files()])
        for path in PACKAGE.iterdir():
            if path.name != "__pycache__":
                self.assertRegex(path.name, r"^[a-z0-9_]+\.py$")

    def test_signs_lines_and_words(self):
        for path in files():
            text = path.read_text()
            self.assertRegex(text, r"\A[ -~\n]*\Z", path.name)
            self.assertIsNone(BARRED_WORDS.search(text), path.name)
            lines = text.split("\n")
            self.assertLessEqual(len(lines), 400, path.name)
            self.assertLessEqual(max(len(line) for line in lines), 120, path.name)

    def test_imports(self):
        defined = {name[:-3]: [getattr(node, "name", None) or node.targets[0].id for node in tree.body
                               if isinstance(node, (ast.FunctionDef, ast.ClassDef, ast.Assign))]
                   for name, tree in trees()}
        for name, tree in trees():
            for node in nodes(tree, ast.ImportFrom):
                self.assertIn(node, tree.body, name)
                package, file = node.module.split(".")
                self.assertEqual((package, node.level), ("neverwait", 0), name)
                for alias in node.names:
                    self.assertIn(alias.name, defined[file], name)

    def test_nothing_but_definitions_at_module_level(self):
        for name, tree in trees():
            self.assertIsNotNone(ast.get_docstring(tree), name)
            for node in tree.body[1:]:
                self.assertIsInstance(node, (ast.ImportFrom, ast.FunctionDef, ast.ClassDef, ast.Assign), name)

    def test_statements_and_expressions(self):
        for name, tree in trees():
            self.assertEqual(nodes(tree, *BARRED_NODES), [], name)
            for node in nodes(tree, ast.For, ast.While):
                self.assertEqual(node.orelse, [], name)
            for node in nodes(tree, ast.Constant):
                self.assertNotIsInstance(node.value, (float, complex), name)
                self.assertFalse(isinstance(node.value, str) and "%" in node.value, name)
            for node in nodes(tree, ast.BinOp):
                if isinstance(node.op, ast.Pow):
                    self.assertIsInstance(node.right, ast.Constant, name)
            for node in nodes(tree, ast.Compare):
                for op, right in zip(node.ops, node.comparators):
                    if isinstance(op, (ast.Is, ast.IsNot)):
                        self.assertIn(getattr(right, "value", "other"), (None, True, False), name)

    def test_functions(self):
        for name, tree in trees():
            for node in nodes(tree, ast.FunctionDef):
                self.assertLessEqual(node.end_lineno - node.lineno + 1, 40, node.name)
                self.assertEqual(node.decorator_list, [], node.name)
                self.assertIsNone(node.args.vararg, node.name)
                self.assertIsNone(node.args.kwarg, node.name)
                self.assertEqual(node.args.posonlyargs, [], node.name)

    def test_classes(self):
        for node in classes():
            self.assertLessEqual(len(node.bases), 1, node.name)
            self.assertEqual(node.decorator_list + node.keywords, [], node.name)
            names = [part.name for part in node.body if isinstance(part, ast.FunctionDef)]
            self.assertEqual(len(names), len(set(names)), node.name)
            self.assertEqual([part for part in names if part.startswith("__") and part not in DUNDERS], [])
        self.assertEqual(set(method_names()) & set(attribute_names()), set())

    def test_names(self):
        methods = method_names()
        for name, tree in trees():
            taken = [node.name for node in tree.body if isinstance(node, ast.ClassDef)]
            taken += [alias.name for node in nodes(tree, ast.ImportFrom) for alias in node.names]
            for bound in bound_names(tree):
                self.assertTrue(bound in DUNDERS or not bound.startswith("_"), (name, bound))
                self.assertNotIn(bound, BARRED_NAMES, name)
                if bound not in methods:
                    self.assertNotIn(bound, ALL_BUILTINS, name)
            local = [node.id for node in nodes(tree, ast.Name) if isinstance(node.ctx, ast.Store)]
            local += [node.arg for node in nodes(tree, ast.arg)]
            self.assertEqual(set(local) & set(taken), set(), name)
            for node in nodes(tree, ast.Name):
                if node.id in ALL_BUILTINS:
                    self.assertIn(node.id, BUILTINS, name)

    def test_methods_that_are_called(self):
        known = BUILTIN_METHODS | set(method_names()) | {"__init__"}
        for name, tree in trees():
            for node in nodes(tree, ast.Call):
                if isinstance(node.func, ast.Attribute):
                    self.assertIn(node.func.attr, known, name)

    def test_raises_are_made_on_the_spot(self):
        for name, tree in trees():
            for node in nodes(tree, ast.Raise):
                self.assertIsInstance(node.exc, (ast.Call, type(None)), name)
            for node in nodes(tree, ast.ExceptHandler):
                self.assertIsNotNone(node.type, name)
                self.assertNotIn(getattr(node.type, "id", ""), ("Exception", "TypeError"), name)


if __name__ == "__main__":
    unittest.main()
