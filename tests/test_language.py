"""The rules of LANGUAGE.md that can be seen in the package's files."""

import ast
import builtins
import pathlib
import re
import unittest

PACKAGE = pathlib.Path(__file__).resolve().parent.parent / "switchrules"
FILES = sorted(path for path in PACKAGE.rglob("*") if path.is_file() and "__pycache__" not in path.parts)

NODES = """Module FunctionDef ClassDef arguments arg Assign AugAssign If While For Return Break Continue Pass
Raise Try ExceptHandler Expr ImportFrom alias Constant List Tuple Dict Call Attribute Subscript Slice Name Load
Store BinOp Add Sub Mult FloorDiv Mod Pow BitAnd BitOr BitXor LShift RShift UnaryOp USub Invert Not BoolOp And Or
Compare Eq NotEq Lt LtE Gt GtE Is IsNot In NotIn IfExp ListComp comprehension Lambda JoinedStr FormattedValue
keyword""".split()
OWN_NAMES = """len range enumerate zip min max sum abs sorted reversed int str bool list tuple dict set isinstance
ord repr any all divmod Exception ValueError KeyError IndexError LookupError ZeroDivisionError ArithmeticError
OverflowError RuntimeError NotImplementedError StopIteration""".split()
METHODS = """append clear copy count endswith extend find get index insert isalnum isalpha isdigit islower isspace
isupper items join keys ljust lower lstrip partition pop remove replace reverse rfind rjust rpartition rsplit rstrip
setdefault split splitlines startswith strip update upper values zfill bit_length""".split()
TAKEN = {name for kind in (str, int, list, dict, set, bytes, tuple) for name in vars(kind)}
NOWHERE = """type typing typing_extensions enum Enum IntEnum StrEnum Flag IntFlag Generic Protocol ABC ABCMeta
namedtuple NamedTuple TypedDict TYPE_CHECKING abstractmethod""".split()
NOT_USED = """register mro elements open input version_info with_traceback add_note sys os id gc attrgetter
methodcaller importlib""".split()


def length(node):
    return node.end_lineno - node.lineno + 1


class Language(unittest.TestCase):
    def each(self):
        for path in FILES:
            yield path, path.read_text(encoding="utf-8")

    def walk(self, *kinds):
        for path, text in self.each():
            for node in ast.walk(ast.parse(text)):
                if isinstance(node, kinds):
                    yield f"{path.name}:{getattr(node, 'lineno', 0)}", node

    def test_files(self):
        self.assertIn(PACKAGE / "__init__.py", FILES)
        for path in FILES:
            self.assertRegex(path.name, r"\A([a-z][a-z0-9_]*|__init__|__main__)\.py\Z")
            self.assertNotIn(path.stem, dir(builtins))

    def test_signs_and_size(self):
        for path, text in self.each():
            self.assertRegex(text, r"\A[ -~\n]*\Z", path)
            rows = text.split("\n")
            self.assertLessEqual(len(rows) - 1, 400, path)
            self.assertLessEqual(max(len(row) for row in rows), 120, path)
        for where, node in self.walk(ast.FunctionDef):
            self.assertLessEqual(length(node), 40, where)

    def test_words_that_stand_nowhere(self):
        for path, text in self.each():
            self.assertFalse(set(re.findall(r"\w+", text)) & set(NOWHERE), path)
            self.assertNotRegex(text, "dataclass|overload|contextmanager", path)

    def test_forms(self):
        for where, node in self.walk(ast.AST):
            self.assertIn(node.__class__.__name__, NODES, where)
        for where, node in self.walk(ast.Assign):
            self.assertEqual(len(node.targets), 1, where)
        for where, node in self.walk(ast.For, ast.While, ast.Try):
            self.assertFalse(node.orelse and not isinstance(node, ast.Try), where)
            self.assertFalse(getattr(node, "finalbody", []), where)
        for where, node in self.walk(ast.ListComp):
            self.assertTrue(len(node.generators) == 1 and len(node.generators[0].ifs) <= 1, where)
        for where, node in self.walk(ast.BinOp):
            if isinstance(node.op, ast.Pow):
                self.assertIsInstance(node.right, ast.Constant, where)
        for where, node in self.walk(ast.Constant):
            self.assertTrue(node.value is None or isinstance(node.value, (int, str)), where)

    def test_texts_stand_alone_only_at_a_files_top(self):
        for path, text in self.each():
            module = ast.parse(text)
            for node in ast.walk(module):
                if isinstance(node, ast.Expr) and not isinstance(node.value, ast.Call):
                    self.assertIs(node, module.body[0], path)

    def test_functions_and_classes(self):
        for where, node in self.walk(ast.FunctionDef, ast.ClassDef):
            self.assertFalse(node.decorator_list, where)
        for where, node in self.walk(ast.arguments):
            self.assertFalse(node.vararg or node.kwarg or node.kwonlyargs or node.posonlyargs, where)
        for where, node in self.walk(ast.ClassDef):
            self.assertLessEqual(len(node.bases), 1, where)
            for inner in node.body:
                self.assertIsInstance(inner, (ast.FunctionDef, ast.Pass), where)

    def test_names(self):
        for path, text in self.each():
            module = ast.parse(text)
            bound = {n.id for n in ast.walk(module) if isinstance(n, ast.Name) and isinstance(n.ctx, ast.Store)}
            bound |= {n.arg for n in ast.walk(module) if isinstance(n, ast.arg)}
            top = [n.name for n in module.body if isinstance(n, (ast.FunctionDef, ast.ClassDef))]
            drawn = [a.name for n in module.body if isinstance(n, ast.ImportFrom) for a in n.names]
            self.assertEqual(len(set(top + drawn)), len(top + drawn), path)
            self.assertFalse(bound & set(top + drawn), path)
            own = bound | set(top) | set(drawn)
            self.assertFalse(own & (set(dir(builtins)) | set(NOT_USED)), path)
            for name in sorted(own):
                self.assertRegex(name, r"\A[A-Za-z]\w*\Z", path)
            for node in ast.walk(module):
                if isinstance(node, ast.Name) and node.id not in own:
                    self.assertIn(node.id, OWN_NAMES, path)

    def test_methods_and_values(self):
        methods = {node.name for where, node in self.walk(ast.FunctionDef)}
        for where, node in self.walk(ast.Attribute):
            self.assertNotIn(node.attr, NOT_USED, where)
            if node.attr in TAKEN:
                self.assertIn(node.attr, METHODS, where)
            self.assertFalse(isinstance(node.ctx, ast.Store) and node.attr in TAKEN | methods, where)

    def test_top_and_imports(self):
        for path, text in self.each():
            for node in ast.parse(text).body:
                self.assertIsInstance(node, (ast.Expr, ast.ImportFrom, ast.FunctionDef, ast.ClassDef, ast.Assign), path)
                if isinstance(node, ast.ImportFrom):
                    self.assertEqual(node.level, 0, path)
                    self.assertTrue(node.module.startswith("switchrules."), path)
                    source = PACKAGE / (node.module.split(".", 1)[1] + ".py")
                    for drawn in node.names:
                        self.assertRegex(source.read_text(), rf"(?m)^((def|class) )?{drawn.name}\b", path)
                if isinstance(node, ast.Assign):
                    ast.literal_eval(node.value)

    def test_no_two_files_draw_from_one_another(self):
        draws = {}
        for path, text in self.each():
            nodes = [node for node in ast.parse(text).body if isinstance(node, ast.ImportFrom)]
            draws[path.stem] = {node.module.split(".", 1)[1] for node in nodes}
        while draws:
            free = [name for name in draws if not draws[name] & set(draws)]
            self.assertTrue(free, draws)
            for name in free:
                del draws[name]


if __name__ == "__main__":
    unittest.main()
