"""The package keeps to the small part of Python that LANGUAGE.md tells, as far as a test can see."""
import ast
import builtins
import pathlib
import re
import unittest

PACKAGE = pathlib.Path(__file__).resolve().parent.parent / "boundagain"
FILES = sorted(path for path in PACKAGE.rglob("*") if "__pycache__" not in path.parts and path.is_file())

BUILT_INS = set("""len range enumerate zip min max sum abs sorted reversed int str bool list tuple dict set frozenset
    isinstance ord repr any all divmod Exception ValueError TypeError KeyError IndexError LookupError ZeroDivisionError
    ArithmeticError OverflowError RuntimeError NotImplementedError""".split())
METHODS = set("""append clear copy count endswith extend find get index insert isalnum isalpha isdigit islower isspace
    isupper items join keys ljust lower lstrip partition pop remove replace reverse rfind rjust rpartition rsplit rstrip
    setdefault split splitlines startswith strip update upper values zfill bit_length""".split())
WORDS = set("""type typing typing_extensions enum Enum IntEnum StrEnum Flag IntFlag Generic Protocol ABC ABCMeta
    namedtuple NamedTuple TypedDict TYPE_CHECKING abstractmethod""".split())
NODES = (
    ast.Module, ast.ImportFrom, ast.alias, ast.FunctionDef, ast.arguments, ast.arg, ast.Assign, ast.If, ast.While,
    ast.For, ast.Return, ast.Break, ast.Continue, ast.Pass, ast.Expr, ast.Constant, ast.Name, ast.List, ast.Tuple,
    ast.Dict, ast.BinOp, ast.UnaryOp, ast.BoolOp, ast.Compare, ast.IfExp, ast.Call, ast.Attribute, ast.Subscript,
    ast.Slice, ast.ListComp, ast.comprehension, ast.Load, ast.Store, ast.operator, ast.unaryop, ast.boolop, ast.cmpop)


def walk(path, *kinds):
    return [node for node in ast.walk(ast.parse(path.read_text())) if isinstance(node, kinds)]


def drawn_files(path):
    """The package's own files that this one draws from."""
    return [PACKAGE / (node.module.split(".")[1] + ".py") for node in walk(path, ast.ImportFrom)]


def drawn_names(path):
    return [name.name for node in walk(path, ast.ImportFrom) for name in node.names]


def top_names(path):
    """What a file defines itself."""
    names = []
    for node in ast.parse(path.read_text()).body:
        if isinstance(node, ast.Assign):
            names.append(node.targets[0].id)
        if isinstance(node, ast.FunctionDef):
            names.append(node.name)
    return names


class Language(unittest.TestCase):
    def each(self, *kinds):
        for path in FILES:
            for node in walk(path, *kinds):
                yield node, f"{path.name} line {getattr(node, 'lineno', 0)}"

    def test_files(self):
        self.assertIn(PACKAGE / "__init__.py", FILES)
        self.assertIn(PACKAGE / "books.py", FILES)
        for path in FILES:
            self.assertRegex(str(path.relative_to(PACKAGE)), r"\A(?:__init__|[a-z][a-z0-9_]*)\.py\Z")

    def test_sizes_and_signs(self):
        for path in FILES:
            text = path.read_text()
            self.assertRegex(text, r"\A[ -~\n]*\Z")
            self.assertLessEqual(len(text.splitlines()), 400)
            self.assertLessEqual(max(len(line) for line in text.splitlines()), 120)
            self.assertEqual(WORDS & set(re.findall(r"\w+", text)), set())
            self.assertNotRegex(text, "dataclass|overload|contextmanager")
        for node, place in self.each(ast.FunctionDef):
            self.assertLessEqual(node.end_lineno - node.lineno + 1, 40, place)

    def test_forms(self):
        for node, place in self.each(ast.AST):
            self.assertIsInstance(node, NODES, place)
            self.assertNotIsInstance(node, (ast.Div, ast.MatMult, ast.Pow), place)
        for node, place in self.each(ast.For, ast.While):
            self.assertEqual(node.orelse, [], place)
        for node, place in self.each(ast.Assign):
            self.assertEqual(len(node.targets), 1, place)
        for node, place in self.each(ast.ListComp):
            self.assertEqual(len(node.generators), 1, place)
            self.assertLessEqual(len(node.generators[0].ifs), 1, place)
        for node, place in self.each(ast.Expr):
            self.assertTrue(isinstance(node.value, ast.Call) or ast.unparse(node)[0] in "'\"", place)
        for node, place in self.each(ast.Constant):
            self.assertIn(type(node.value), (int, str, bool, type(None)), place)
            self.assertNotIn("%", str(node.value), place)
        for node, place in self.each(ast.Compare):
            for operator, right in zip(node.ops, node.comparators):
                if isinstance(operator, (ast.Is, ast.IsNot)):
                    self.assertIsInstance(right, ast.Constant, place)

    def test_tops(self):
        for path in FILES:
            behind = False
            for node in ast.parse(path.read_text()).body:
                self.assertIsInstance(node, (ast.Expr, ast.ImportFrom, ast.FunctionDef, ast.Assign))
                if isinstance(node, ast.Assign):
                    self.assertIsInstance(node.value, ast.Constant)
                if isinstance(node, (ast.FunctionDef, ast.Assign)):
                    behind = True
                self.assertFalse(behind and isinstance(node, ast.ImportFrom), path.name)
            names = top_names(path) + drawn_names(path)
            self.assertEqual(len(names), len(set(names)))

    def test_functions(self):
        for node, place in self.each(ast.FunctionDef):
            self.assertEqual(node.decorator_list, [], place)
            self.assertEqual((node.args.vararg, node.args.kwarg, node.args.kwonlyargs, node.args.posonlyargs),
                             (None, None, [], []), place)
            self.assertIsNone(node.returns, place)

    def test_names(self):
        for path in FILES:
            tops = {node.name for node in walk(path, ast.FunctionDef)}
            bound = {node.id for node in walk(path, ast.Name) if isinstance(node.ctx, ast.Store)}
            bound |= {node.arg for node in walk(path, ast.arg)}
            drawn = set(drawn_names(path))
            for name in tops | bound:
                self.assertRegex(name, r"\A[A-Za-z]\w*\Z")
                self.assertFalse(hasattr(builtins, name), name)
                self.assertNotIn(name, drawn)
            for node in walk(path, ast.Name):
                self.assertIn(node.id, tops | bound | drawn | BUILT_INS)

    def test_methods_are_called_where_they_stand(self):
        for path in FILES:
            called = [node.func for node in walk(path, ast.Call)]
            for node in walk(path, ast.Attribute):
                self.assertIn(node.attr, METHODS)
                self.assertIn(ast.dump(node), [ast.dump(func) for func in called])

    def test_imports_are_from_the_file_that_defines_the_name(self):
        for node, place in self.each(ast.Import):
            self.fail(place)
        for path in FILES:
            for node in walk(path, ast.ImportFrom):
                place = f"{path.name} line {node.lineno}"
                self.assertRegex(node.module, r"\Aboundagain\.[a-z][a-z0-9_]*\Z", place)
                self.assertEqual(node.level, 0, place)
                defined = top_names(PACKAGE / (node.module.split(".")[1] + ".py"))
                for name in node.names:
                    self.assertIsNone(name.asname, place)
                    self.assertIn(name.name, defined, place)

    def test_what_is_drawn_is_used(self):
        for path in FILES:
            used = {node.id for node in walk(path, ast.Name)}
            self.assertLessEqual(set(drawn_names(path)), used, path.name)

    def test_no_two_files_draw_from_one_another(self):
        for path in FILES:
            reached = []
            waiting = drawn_files(path)
            while waiting:
                other = waiting.pop()
                if other not in reached:
                    reached.append(other)
                    waiting += drawn_files(other)
            self.assertNotIn(path, reached)


if __name__ == "__main__":
    unittest.main()
