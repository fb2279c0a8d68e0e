"""The plainer rules of ../shared/LANGUAGE.md, asked of the package's files."""

import ast
import builtins
import pathlib
import re
import unittest

PACKAGE = pathlib.Path(__file__).resolve().parent.parent / "lettershapesdesk"
FILES = sorted(PACKAGE.glob("**/*.py"))

STATEMENTS = (ast.Assign, ast.AugAssign, ast.If, ast.While, ast.For, ast.Return, ast.Break, ast.Continue, ast.Pass,
              ast.Raise, ast.Try, ast.Expr, ast.FunctionDef, ast.ClassDef, ast.ImportFrom)
EXPRESSIONS = (ast.Constant, ast.List, ast.Tuple, ast.Dict, ast.BinOp, ast.UnaryOp, ast.BoolOp, ast.Compare,
               ast.IfExp, ast.Call, ast.Attribute, ast.Subscript, ast.Slice, ast.ListComp, ast.JoinedStr,
               ast.FormattedValue, ast.Name, ast.Lambda)
OWN_NAMES = set("""len range enumerate zip min max sum abs sorted reversed int str bool list tuple dict set frozenset
    isinstance ord repr any all divmod Exception ValueError TypeError KeyError IndexError LookupError
    ZeroDivisionError ArithmeticError OverflowError RuntimeError NotImplementedError AttributeError
    StopIteration""".split())
METHODS = set("""append clear copy count endswith extend find get index insert isalnum isalpha isdigit islower isspace
    isupper items join keys ljust lower lstrip partition pop remove replace reverse rfind rjust rpartition rsplit
    rstrip setdefault split splitlines startswith strip update upper values zfill bit_length __init__""".split())
WORDS = re.compile(r"\b(type|typing|typing_extensions|enum|Enum|IntEnum|StrEnum|Flag|IntFlag|Generic|Protocol|ABC"
                   r"|ABCMeta|namedtuple|NamedTuple|TypedDict|TYPE_CHECKING|abstractmethod)\b"
                   r"|dataclass|overload|contextmanager")


class Language(unittest.TestCase):

    def each(self):
        for file in FILES:
            text = file.read_text(encoding="utf-8")
            with self.subTest(file=file.name):
                yield text, ast.parse(text)

    def test_files(self):
        self.assertIn(PACKAGE / "__init__.py", FILES)
        for path in PACKAGE.iterdir():
            if path.name != "__pycache__":
                self.assertRegex(path.name, r"^([a-z][a-z0-9_]*|__init__|__main__)\.py$")

    def test_signs_and_sizes(self):
        for text, tree in self.each():
            self.assertRegex(text, r"\A[ -~\n]*\Z")
            self.assertLessEqual(len(text.splitlines()), 400)
            self.assertLessEqual(max(len(line) for line in text.splitlines()), 120)
            for node in ast.walk(tree):
                if isinstance(node, ast.FunctionDef):
                    self.assertLessEqual(node.end_lineno - node.lineno + 1, 40, node.name)

    def test_words_that_stand_nowhere(self):
        for text, tree in self.each():
            self.assertIsNone(WORDS.search(text))

    def test_statements_and_expressions(self):
        for text, tree in self.each():
            for node in ast.walk(tree):
                if isinstance(node, ast.stmt):
                    self.assertIsInstance(node, STATEMENTS, node.lineno)
                if isinstance(node, ast.expr):
                    self.assertIsInstance(node, EXPRESSIONS, node.lineno)
                self.assertNotIsInstance(node, ast.Div)
                if isinstance(node, ast.Constant):
                    self.assertNotIsInstance(node.value, (float, complex, bytes), node.lineno)
                if isinstance(node, ast.ImportFrom):
                    self.assertRegex(node.module, r"^(lettershapesdesk\.|__future__$)")
                if isinstance(node, (ast.FunctionDef, ast.ClassDef)):
                    self.assertEqual(node.decorator_list, [])

    def test_names(self):
        python_names = set(dir(builtins))
        for text, tree in self.each():
            own_methods = {node.name for node in ast.walk(tree) if isinstance(node, ast.FunctionDef)}
            for node in ast.walk(tree):
                if isinstance(node, ast.Name) and node.id in python_names:
                    self.assertIn(node.id, OWN_NAMES, node.lineno)
                    self.assertIsInstance(node.ctx, ast.Load, node.lineno)
                if isinstance(node, ast.arg):
                    self.assertNotIn(node.arg, python_names)
                if isinstance(node, (ast.Name, ast.arg)):
                    self.assertRegex(node.id if isinstance(node, ast.Name) else node.arg, r"^[A-Za-z]\w*$")
                if isinstance(node, ast.Call) and isinstance(node.func, ast.Attribute):
                    self.assertIn(node.func.attr, METHODS | own_methods, node.lineno)

    def test_imports(self):
        drawn = {}
        for file in FILES:
            tree = ast.parse(file.read_text(encoding="utf-8"))
            rows = [node for node in ast.walk(tree) if isinstance(node, ast.ImportFrom)]
            names = {alias.name for node in rows for alias in node.names}
            used = {node.id for node in ast.walk(tree) if isinstance(node, ast.Name)}
            bound = {node.id for node in ast.walk(tree)
                     if isinstance(node, ast.Name) and isinstance(node.ctx, ast.Store)}
            bound |= {node.arg for node in ast.walk(tree) if isinstance(node, ast.arg)}
            with self.subTest(file=file.name):
                self.assertEqual(names - used, set())
                self.assertEqual(names & bound, set())
                for node in rows:
                    self.assertIn(node, tree.body)
                    source = PACKAGE.parent / (node.module.replace(".", "/") + ".py")
                    self.assertLessEqual({alias.name for alias in node.names}, top_names(source))
            drawn[file.stem] = {node.module.split(".")[-1] for node in rows}
        # Files that draw from none that are left are taken away until none is left, or some draw in a ring.
        while drawn:
            free = {name for name, others in drawn.items() if not others & set(drawn)}
            self.assertTrue(free, drawn)
            drawn = {name: others for name, others in drawn.items() if name not in free}


def top_names(source):
    """The names that a file defines at its top."""
    names = set()
    for node in ast.parse(source.read_text(encoding="utf-8")).body:
        if isinstance(node, ast.Assign):
            names |= {target.id for target in node.targets}
        elif isinstance(node, (ast.FunctionDef, ast.ClassDef)):
            names.add(node.name)
    return names


if __name__ == "__main__":
    unittest.main()
