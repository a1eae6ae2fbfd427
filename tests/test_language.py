"""The package's files keep to the part of the language that the program is written in."""

import ast
import builtins
import pathlib
import re
import unittest

PACKAGE = pathlib.Path(__file__).resolve().parent.parent / "piecebook"
FILES = sorted(PACKAGE.rglob("*.py"))

BUILTINS = set("""len range enumerate zip min max sum abs sorted reversed int str bool list tuple dict set frozenset
isinstance ord repr any all divmod Exception ValueError TypeError KeyError IndexError LookupError ZeroDivisionError
ArithmeticError OverflowError RuntimeError NotImplementedError AttributeError StopIteration""".split())

METHODS = set("""append clear copy count endswith extend find get index insert isalnum isalpha isdigit islower isspace
isupper items join keys ljust lower lstrip partition pop remove replace reverse rfind rjust rpartition rsplit rstrip
setdefault split splitlines startswith strip update upper values zfill bit_length""".split())

WORDS = set("""type typing typing_extensions enum Enum IntEnum StrEnum Flag IntFlag Generic Protocol ABC ABCMeta
namedtuple NamedTuple TypedDict TYPE_CHECKING abstractmethod""".split())

UNUSED = set("register mro elements open input version_info with_traceback add_note".split())

VALUES = set("count index title find get join lower upper split strip copy add".split())

SPECIAL = {"__init__", "__eq__", "__repr__", "__str__", "__len__"}

STATEMENTS = (ast.Assign, ast.AugAssign, ast.If, ast.While, ast.For, ast.Return, ast.Break, ast.Continue, ast.Pass,
              ast.Raise, ast.Try, ast.Expr, ast.FunctionDef, ast.ClassDef, ast.ImportFrom)

NOT_USED = (ast.Set, ast.SetComp, ast.DictComp, ast.GeneratorExp, ast.NamedExpr, ast.Starred, ast.Div, ast.Await,
            ast.Yield, ast.YieldFrom, ast.MatMult)


def walked():
    """Every part of every file, with the file's name."""
    for path in FILES:
        for part in ast.walk(ast.parse(path.read_text())):
            yield path.name, part


class Language(unittest.TestCase):
    def test_files_and_signs(self):
        self.assertIn(PACKAGE / "__init__.py", FILES)
        for path in PACKAGE.iterdir():
            if path.name != "__pycache__":
                self.assertRegex(path.name, r"\A[a-z0-9_]+\.py\Z")
        for path in FILES:
            text = path.read_bytes().decode("ascii")
            self.assertRegex(text, r"\A[ -~\n]*\Z")
            self.assertLessEqual(len(text.splitlines()), 400)
            self.assertLessEqual(max(len(line) for line in text.splitlines()), 120)
            self.assertEqual(set(re.findall(r"\w+", text)) & WORDS, set())
            self.assertNotRegex(text, "dataclass|overload|contextmanager")

    def test_imports(self):
        for name, part in walked():
            self.assertNotIsInstance(part, ast.Import)
            if isinstance(part, ast.ImportFrom):
                self.assertRegex(part.module, r"\Apiecebook\.\w+\Z")
                self.assertEqual(part.level, 0)

    def test_statements_and_expressions(self):
        for name, part in walked():
            if isinstance(part, ast.stmt):
                self.assertIsInstance(part, STATEMENTS, name)
            self.assertNotIsInstance(part, NOT_USED, name)
            if isinstance(part, ast.Constant):
                self.assertIn(type(part.value), (int, str, bool, type(None)), name)
            if isinstance(part, (ast.For, ast.While)):
                self.assertEqual(part.orelse, [], name)
            if isinstance(part, ast.Assign):
                self.assertEqual(len(part.targets), 1, name)

    def test_functions(self):
        for name, part in walked():
            if isinstance(part, ast.FunctionDef):
                self.assertLessEqual(part.end_lineno - part.lineno + 1, 40, part.name)
                self.assertEqual(part.decorator_list, [])
                self.assertIsNone(part.args.vararg or part.args.kwarg or part.returns)
                self.assertEqual(part.args.kwonlyargs + part.args.posonlyargs, [])
                self.assertEqual([given for given in part.args.args if given.annotation], [])

    def test_names(self):
        for name, part in walked():
            if isinstance(part, ast.Name):
                self.assertRegex(part.id, r"\A[A-Za-z]\w*\Z", name)
                self.assertNotIn(part.id, UNUSED)
                if hasattr(builtins, part.id):
                    self.assertIn(part.id, BUILTINS, name)
                    self.assertIsInstance(part.ctx, ast.Load, name)
            if isinstance(part, ast.arg):
                self.assertFalse(hasattr(builtins, part.arg), part.arg)
            if isinstance(part, (ast.FunctionDef, ast.ClassDef)) and part.name not in SPECIAL:
                self.assertRegex(part.name, r"\A[A-Za-z]\w*\Z", name)

    def test_methods_and_values(self):
        methods = set()
        values = set()
        for name, part in walked():
            if isinstance(part, ast.ClassDef):
                methods |= {inner.name for inner in part.body if isinstance(inner, ast.FunctionDef)}
            if isinstance(part, ast.Attribute) and isinstance(part.ctx, ast.Store):
                values.add(part.attr)
        self.assertEqual(methods & values, set())
        for name, part in walked():
            if isinstance(part, ast.Attribute):
                self.assertIn(part.attr, methods | values | METHODS, name)

    def test_own_names_are_not_those_of_python_s_own_values(self):
        taken = set()
        for kind in (str, int, list, tuple, dict, set, frozenset, bytes, bytearray):
            taken |= set(dir(kind))
        for name, part in walked():
            if isinstance(part, ast.ClassDef):
                methods = {inner.name for inner in part.body if isinstance(inner, ast.FunctionDef)}
                self.assertEqual(methods & taken - SPECIAL - METHODS - {"add", "discard"}, set(), name)
            if isinstance(part, ast.Attribute) and isinstance(part.ctx, ast.Store):
                self.assertNotIn(part.attr, taken - VALUES, name)

    def test_no_local_is_called_like_a_name_of_python_s_own_or_an_import(self):
        for path in FILES:
            tree = ast.parse(path.read_text())
            drawn = {given.name for part in ast.walk(tree) if isinstance(part, ast.ImportFrom) for given in part.names}
            drawn |= {part.name for part in ast.walk(tree) if isinstance(part, ast.ClassDef)}
            for part in ast.walk(tree):
                if isinstance(part, ast.arg):
                    self.assertNotIn(part.arg, drawn, path.name)
                if isinstance(part, ast.Name) and isinstance(part.ctx, ast.Store):
                    self.assertNotIn(part.id, drawn, path.name)

    def test_files_draw_from_files_that_do_not_draw_back(self):
        draws = {}
        for path in FILES:
            draws[path.stem] = {part.module.split(".")[1] for part in ast.walk(ast.parse(path.read_text()))
                                if isinstance(part, ast.ImportFrom)}
        while draws:
            free = [name for name in draws if not draws[name] & set(draws)]
            self.assertNotEqual(free, [], draws)
            for name in free:
                draws.pop(name)

    def test_no_power_of_a_name(self):
        for name, part in walked():
            if isinstance(part, ast.BinOp) and isinstance(part.op, (ast.Pow, ast.LShift)):
                self.assertIsInstance(part.right, ast.Constant, name)

    def test_each_top_name_once(self):
        for path in FILES:
            bound = []
            for part in ast.parse(path.read_text()).body:
                if isinstance(part, ast.Assign):
                    bound.append(part.targets[0].id)
                elif isinstance(part, ast.ImportFrom):
                    bound += [given.name for given in part.names]
                elif isinstance(part, (ast.FunctionDef, ast.ClassDef)):
                    bound.append(part.name)
                else:
                    self.assertIsInstance(part, ast.Expr)
            self.assertEqual(sorted(bound), sorted(set(bound)), path.name)


if __name__ == "__main__":
    unittest.main()
