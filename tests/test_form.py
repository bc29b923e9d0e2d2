"""The program's form: those rules of LANGUAGE.md that a look at the source can tell."""

import ast
import builtins
import pathlib
import re
import unittest

PACKAGE = pathlib.Path(__file__).resolve().parent.parent / "chameleons"

STATEMENTS = (ast.Assign, ast.AugAssign, ast.If, ast.While, ast.For, ast.Return, ast.Break, ast.Continue, ast.Pass,
              ast.Raise, ast.Try, ast.Expr, ast.FunctionDef, ast.ClassDef, ast.ImportFrom)
UNUSED_EXPRESSIONS = (ast.SetComp, ast.DictComp, ast.GeneratorExp, ast.NamedExpr, ast.Starred, ast.Await, ast.Yield,
                      ast.YieldFrom, ast.Div, ast.MatMult, ast.Set)
OWN_NAMES = set("""len range enumerate zip min max sum abs sorted reversed int str bool list tuple dict set frozenset
    isinstance ord repr any all divmod Exception ValueError KeyError IndexError LookupError ZeroDivisionError
    ArithmeticError OverflowError RuntimeError NotImplementedError StopIteration""".split())
METHODS = set("""append clear copy count endswith extend find get index insert isalnum isalpha isdigit islower isspace
    isupper items join keys ljust lower lstrip partition pop remove replace reverse rfind rjust rpartition rsplit
    rstrip setdefault split splitlines startswith strip update upper values zfill bit_length""".split())
WORDS_OUT = re.compile(r"\b(type|typing|typing_extensions|enum|Enum|IntEnum|StrEnum|Flag|IntFlag|Generic|Protocol|ABC|"
                       r"ABCMeta|namedtuple|NamedTuple|TypedDict|TYPE_CHECKING|abstractmethod)\b"
                       r"|dataclass|overload|contextmanager")


def sources():
    return sorted(path for path in PACKAGE.rglob("*") if path.is_file() and "__pycache__" not in path.parts)


def walk_all():
    for path in sources():
        for node in ast.walk(ast.parse(path.read_text())):
            yield path.name, node


def bound_names(tree):
    names = set()
    for node in ast.walk(tree):
        if isinstance(node, (ast.FunctionDef, ast.ClassDef)):
            names.add(node.name)
        elif isinstance(node, ast.arg):
            names.add(node.arg)
        elif isinstance(node, ast.Name) and isinstance(node.ctx, ast.Store):
            names.add(node.id)
        elif isinstance(node, ast.alias):
            names.add(node.name)
    return names


class Form(unittest.TestCase):
    def test_files(self):
        names = [path.relative_to(PACKAGE).as_posix() for path in sources()]
        self.assertIn("__init__.py", names)
        self.assertIn("island.py", names)
        for name in names:
            self.assertRegex(name, r"^(__init__|[a-z][a-z0-9_]*)\.py$")

    def test_size_and_signs(self):
        for path in sources():
            text = path.read_text()
            self.assertRegex(text, r"\A[ -~\n]*\Z")
            self.assertLessEqual(len(text.splitlines()), 400)
            self.assertLessEqual(max(len(line) for line in text.splitlines()), 120)
        for name, node in walk_all():
            if isinstance(node, ast.FunctionDef):
                self.assertLessEqual(node.end_lineno - node.lineno + 1, 40, f"{name}: {node.name}")

    def test_words_that_stand_nowhere(self):
        for path in sources():
            self.assertIsNone(WORDS_OUT.search(path.read_text()), path.name)

    def test_imports_from_the_package_alone(self):
        for name, node in walk_all():
            self.assertNotIsInstance(node, ast.Import, name)
            if isinstance(node, ast.ImportFrom):
                self.assertEqual((node.module or "").split(".")[0], "chameleons", name)
                self.assertEqual(node.level, 0, name)

    def test_statements_and_expressions(self):
        for name, node in walk_all():
            if isinstance(node, ast.stmt):
                self.assertIsInstance(node, STATEMENTS, f"{name}: {node.lineno}")
            if isinstance(node, ast.Assign):
                self.assertEqual(len(node.targets), 1, f"{name}: {node.lineno}")
            if isinstance(node, (ast.For, ast.While)):
                self.assertEqual(node.orelse, [], f"{name}: {node.lineno}")
            if isinstance(node, (ast.FunctionDef, ast.ClassDef)):
                self.assertEqual(node.decorator_list, [], f"{name}: {node.lineno}")
            if isinstance(node, ast.Constant):
                self.assertIsInstance(node.value, (int, str, bool, type(None)), f"{name}: {node.lineno}")
            self.assertNotIsInstance(node, UNUSED_EXPRESSIONS, name)

    def test_names(self):
        for path in sources():
            tree = ast.parse(path.read_text())
            bound = bound_names(tree)
            self.assertEqual(bound & (OWN_NAMES | set(dir(builtins))), set(), path.name)
            for name in bound - {"__init__"}:
                self.assertRegex(name, r"^[A-Za-z][A-Za-z0-9_]*$")
            for node in ast.walk(tree):
                if isinstance(node, ast.Name):
                    self.assertIn(node.id, bound | OWN_NAMES, f"{path.name}: {node.lineno}")

    def test_methods(self):
        own = {node.name for name, node in walk_all() if isinstance(node, ast.FunctionDef)}
        for name, node in walk_all():
            if isinstance(node, ast.Call) and isinstance(node.func, ast.Attribute):
                self.assertIn(node.func.attr, own | METHODS, f"{name}: {node.lineno}")

    def test_the_top_of_a_file(self):
        for path in sources():
            body = ast.parse(path.read_text()).body
            self.assertIsNotNone(ast.get_docstring(ast.parse(path.read_text())))
            given = [node for node in body if isinstance(node, ast.Assign)]
            for node in given:
                ast.literal_eval(node.value)
            names = [node.targets[0].id for node in given]
            names += [node.name for node in body if isinstance(node, (ast.FunctionDef, ast.ClassDef))]
            self.assertEqual(len(names), len(set(names)), path.name)
            for node in body[1:]:
                self.assertIsInstance(node, (ast.Assign, ast.FunctionDef, ast.ClassDef, ast.ImportFrom), path.name)


if __name__ == "__main__":
    unittest.main()
