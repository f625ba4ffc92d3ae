"""Those rules of LANGUAGE.md that can be counted or looked up, on every file of the package."""

import ast
import builtins
import re
import unittest
from pathlib import Path

PACKAGE = Path(__file__).resolve().parent.parent / "fewchanges"

BUILT_INS = set("""len range enumerate zip min max sum abs sorted reversed int str bool list tuple dict set frozenset
    isinstance ord repr any all divmod Exception ValueError TypeError KeyError IndexError LookupError
    ZeroDivisionError ArithmeticError OverflowError RuntimeError NotImplementedError""".split())
METHODS = set("""append clear copy count endswith extend find get index insert isalnum isalpha isdigit islower
    isspace isupper items join keys ljust lower lstrip partition pop remove replace reverse rfind rjust rpartition
    rsplit rstrip setdefault split splitlines startswith strip update upper values zfill bit_length""".split())
WORDS = set("""type typing typing_extensions enum Enum IntEnum StrEnum Flag IntFlag Generic Protocol ABC ABCMeta
    namedtuple NamedTuple TypedDict TYPE_CHECKING abstractmethod""".split())
WITHIN_WORDS = ("dataclass", "overload", "contextmanager")
COPYING = ("len", "list", "tuple", "dict", "sorted")
STATEMENTS = (ast.Module, ast.FunctionDef, ast.ClassDef, ast.ImportFrom, ast.Assign, ast.AugAssign, ast.If, ast.While,
              ast.For, ast.Return, ast.Break, ast.Continue, ast.Pass, ast.Raise, ast.Try, ast.Expr)
EXPRESSIONS = (ast.Constant, ast.List, ast.Tuple, ast.Dict, ast.BinOp, ast.UnaryOp, ast.Compare, ast.BoolOp, ast.IfExp,
               ast.Call, ast.Attribute, ast.Subscript, ast.Slice, ast.ListComp, ast.JoinedStr, ast.FormattedValue,
               ast.Name, ast.Lambda)


def files():
    return sorted(PACKAGE.glob("*.py"))


def trees():
    return [ast.parse(file.read_text(encoding="utf-8"), filename=file.name) for file in files()]


class LanguageTest(unittest.TestCase):
    def test_the_folder_holds_plain_files_alone(self):
        for file in PACKAGE.iterdir():
            if file.name != "__pycache__":
                self.assertRegex(file.name, r"^[a-z0-9_]+\.py$")
        self.assertTrue((PACKAGE / "__init__.py").is_file())

    def test_signs_words_and_sizes_of_files(self):
        for file in files():
            text = file.read_text(encoding="utf-8")
            rows = text.split("\n")
            words = set(re.findall(r"[A-Za-z0-9_]+", text))
            with self.subTest(file=file.name):
                self.assertRegex(text, r"\A[ -~\n]*\Z")
                self.assertLessEqual(len(rows), 400)
                self.assertLessEqual(max(len(row) for row in rows), 120)
                self.assertFalse(words & WORDS)
                self.assertFalse([word for word in words if any(part in word for part in WITHIN_WORDS)])

    def test_statements_and_expressions(self):
        for tree in trees():
            for node in ast.walk(tree):
                if isinstance(node, ast.stmt):
                    self.assertIsInstance(node, STATEMENTS)
                if isinstance(node, ast.expr):
                    self.assertIsInstance(node, EXPRESSIONS)
                if isinstance(node, ast.Assign):
                    self.assertEqual(len(node.targets), 1)
                if isinstance(node, (ast.For, ast.While)):
                    self.assertEqual(node.orelse, [])
                if isinstance(node, ast.Constant):
                    self.assertNotIsInstance(node.value, (float, bytes, complex))
                if isinstance(node, ast.BinOp):
                    self.assertNotIsInstance(node.op, (ast.Div, ast.MatMult))

    def test_functions(self):
        for tree in trees():
            for node in ast.walk(tree):
                if isinstance(node, ast.FunctionDef):
                    self.assertLessEqual(node.end_lineno - node.lineno + 1, 40, node.name)
                    self.assertEqual(node.decorator_list, [])
                    self.assertIsNone(node.args.vararg or node.args.kwarg)
                    self.assertFalse(node.args.kwonlyargs)

    def test_names(self):
        for tree in trees():
            bound = {node.id for node in ast.walk(tree) if isinstance(node, ast.Name) and node.id != "self"
                     and isinstance(node.ctx, ast.Store)}
            bound |= {node.arg for node in ast.walk(tree) if isinstance(node, ast.arg)}
            defined = {node.name for node in ast.walk(tree) if isinstance(node, (ast.FunctionDef, ast.ClassDef))
                       and node.name != "__init__"}
            drawn = {alias.name for node in ast.walk(tree) if isinstance(node, ast.ImportFrom) for alias in node.names}
            used = {node.id for node in ast.walk(tree) if isinstance(node, ast.Name)}
            self.assertFalse((bound | drawn | defined) & set(dir(builtins)))
            self.assertFalse(bound & drawn)
            self.assertFalse([name for name in bound | drawn | defined if name.startswith("_")])
            self.assertEqual(used - bound - drawn - defined - BUILT_INS, set())

    def test_lists_tuples_and_dicts_of_a_files_top_are_only_read(self):
        kept = {top.targets[0].id for tree in trees() for top in tree.body
                if isinstance(top, ast.Assign) and isinstance(top.value, (ast.List, ast.Tuple, ast.Dict))}
        for tree in trees():
            read = set()
            for node in ast.walk(tree):
                if isinstance(node, ast.Subscript) and isinstance(node.ctx, ast.Load):
                    read.add(id(node.value))
                elif isinstance(node, ast.Compare):
                    read |= {id(part) for part in [node.left] + node.comparators}
                elif isinstance(node, (ast.For, ast.comprehension)):
                    read.add(id(node.iter))
                elif isinstance(node, ast.Call) and isinstance(node.func, ast.Name) and node.func.id in COPYING:
                    read |= {id(part) for part in node.args}
            for node in ast.walk(tree):
                if isinstance(node, ast.Name) and node.id in kept and isinstance(node.ctx, ast.Load):
                    self.assertIn(id(node), read, (node.id, node.lineno))

    def test_sets_are_not_kept(self):
        for tree in trees():
            spots = set()
            for node in ast.walk(tree):
                if isinstance(node, ast.Call) and isinstance(node.func, ast.Name) and node.func.id in ("len", "sorted"):
                    spots |= {id(part) for part in node.args}
            for node in ast.walk(tree):
                if isinstance(node, ast.Call) and isinstance(node.func, ast.Name) and node.func.id == "set":
                    self.assertIn(id(node), spots, node.lineno)

    def test_imports_are_the_files_own(self):
        for tree in trees():
            for node in tree.body:
                if isinstance(node, ast.ImportFrom):
                    other = PACKAGE / (node.module.removeprefix("fewchanges.") + ".py")
                    tops = ast.parse(other.read_text()).body
                    own = {top.name for top in tops if isinstance(top, (ast.FunctionDef, ast.ClassDef))}
                    own |= {top.targets[0].id for top in tops if isinstance(top, ast.Assign)}
                    self.assertEqual(node.level, 0)
                    self.assertLessEqual({alias.name for alias in node.names}, own)

    def test_methods_of_values(self):
        own = set()
        for tree in trees():
            for node in ast.walk(tree):
                if isinstance(node, ast.ClassDef):
                    own |= {part.name for part in node.body if isinstance(part, ast.FunctionDef)}
        for tree in trees():
            for node in ast.walk(tree):
                if isinstance(node, ast.Call) and isinstance(node.func, ast.Attribute):
                    self.assertIn(node.func.attr, METHODS | own)


if __name__ == "__main__":
    unittest.main()
