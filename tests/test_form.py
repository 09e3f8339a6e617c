"""The form of the package's own files: rules L1 to L28 as far as they're seen in the text."""

import ast
import builtins
import pathlib
import re
import unittest

PACKAGE = pathlib.Path(__file__).resolve().parent.parent / "recutfigures"
FILES = sorted(path for path in PACKAGE.rglob("*") if path.is_file() and path.suffix != ".pyc")
CALLS = ("between", "why", "fewer", "slid", "sizes")

OWN_NAMES = set("""len range enumerate zip min max sum abs sorted reversed int str bool list tuple dict
set frozenset isinstance ord repr any all divmod Exception ValueError TypeError KeyError IndexError
LookupError ZeroDivisionError ArithmeticError OverflowError RuntimeError NotImplementedError
AttributeError StopIteration""".split())
METHODS = set("""append clear copy count endswith extend find get index insert isalnum isalpha isdigit
islower isspace isupper items join keys ljust lower lstrip partition pop remove replace reverse rfind
rjust rpartition rsplit rstrip setdefault split splitlines startswith strip update upper values zfill
bit_length""".split())
WORDS = set("""type typing typing_extensions enum Enum IntEnum StrEnum Flag IntFlag Generic Protocol ABC
ABCMeta namedtuple NamedTuple TypedDict TYPE_CHECKING abstractmethod""".split())
UNUSED = set("""register mro elements open input version_info with_traceback add_note attrgetter breakpoint
builtins compile copyright credits delattr dir eval exec exit gc getattr globals hasattr help id importlib
license locals methodcaller os quit setattr super type vars sys""".split())
FORBIDDEN = (
    ast.With, ast.Match, ast.Delete, ast.Global, ast.Nonlocal, ast.Assert, ast.Yield, ast.YieldFrom,
    ast.AsyncFunctionDef, ast.AsyncFor, ast.AsyncWith, ast.Await, ast.SetComp, ast.DictComp,
    ast.GeneratorExp, ast.NamedExpr, ast.Starred, ast.Div, ast.MatMult, ast.Import, ast.AnnAssign,
)
TOP = (ast.ImportFrom, ast.FunctionDef, ast.ClassDef, ast.Assign)


def trees():
    for path in FILES:
        yield path, ast.parse(path.read_text(encoding="utf-8"))


def names_bound(tree):
    """Names that parameters and assignments bind."""
    for node in ast.walk(tree):
        if isinstance(node, ast.arg):
            yield node.arg
        elif isinstance(node, ast.Name) and isinstance(node.ctx, ast.Store):
            yield node.id
        elif isinstance(node, ast.ExceptHandler) and node.name:
            yield node.name


def tops(tree):
    """Names of functions, classes and values at a file's top."""
    for node in tree.body:
        if isinstance(node, (ast.FunctionDef, ast.ClassDef)):
            yield node.name
        elif isinstance(node, ast.Assign):
            yield node.targets[0].id


def drawn(tree):
    """(module, name) of each import."""
    return [(node.module, alias.name) for node in tree.body if isinstance(node, ast.ImportFrom)
            for alias in node.names]


class Form(unittest.TestCase):
    def test_files(self):
        self.assertIn(PACKAGE / "__init__.py", FILES)
        for path in FILES:
            self.assertRegex(path.name, r"^(__init__|[a-z][a-z0-9_]*)\.py$")
            self.assertNotIn(path.stem, dir(builtins))
            self.assertEqual(path.parent, PACKAGE)

    def test_signs_and_sizes(self):
        for path, tree in trees():
            text = path.read_text(encoding="utf-8")
            self.assertTrue(all(sign == "\n" or " " <= sign <= "~" for sign in text))
            rows = text.splitlines()
            self.assertLessEqual(len(rows), 399)
            self.assertLessEqual(max([len(row) for row in rows]), 120)
            for node in ast.walk(tree):
                if isinstance(node, ast.FunctionDef):
                    self.assertLessEqual(node.end_lineno - node.lineno + 1, 40, node.name)

    def test_words(self):
        for path, tree in trees():
            text = path.read_text(encoding="utf-8")
            self.assertEqual(WORDS & set(re.findall(r"\w+", text)), set())
            self.assertIsNone(re.search("dataclass|overload|contextmanager", text))

    def test_statements(self):
        for path, tree in trees():
            for node in ast.walk(tree):
                self.assertNotIsInstance(node, FORBIDDEN)
                if isinstance(node, (ast.For, ast.While)):
                    self.assertEqual(node.orelse, [])
                if isinstance(node, ast.Assign):
                    self.assertEqual(len(node.targets), 1)
                if isinstance(node, ast.Try):
                    self.assertEqual(node.finalbody, [])
                if isinstance(node, ast.ListComp):
                    self.assertEqual(len(node.generators), 1)
                    self.assertLessEqual(len(node.generators[0].ifs), 1)
                if isinstance(node, ast.Constant):
                    self.assertNotIsInstance(node.value, (float, bytes, complex))
                if isinstance(node, (ast.FunctionDef, ast.ClassDef)):
                    self.assertEqual(node.decorator_list, [])
                if isinstance(node, ast.arguments):
                    self.assertFalse(node.vararg or node.kwarg or node.kwonlyargs or node.posonlyargs)

    def test_tops(self):
        for path, tree in trees():
            self.assertIsNotNone(ast.get_docstring(tree))
            for node in tree.body[1:]:
                self.assertIsInstance(node, TOP)
            bound = list(tops(tree))
            self.assertEqual(len(bound), len(set(bound)))

    def test_names(self):
        for path, tree in trees():
            bound = list(names_bound(tree))
            imported = [name for module, name in drawn(tree)]
            classes = [node.name for node in tree.body if isinstance(node, ast.ClassDef)]
            for name in bound:
                self.assertRegex(name, r"^[A-Za-z][A-Za-z0-9_]*$")
                self.assertNotIn(name, dir(builtins))
                self.assertNotIn(name, imported + classes)
                self.assertNotIn(name, UNUSED)
            known = set(bound) | set(imported) | set(tops(tree)) | OWN_NAMES
            for node in ast.walk(tree):
                if isinstance(node, ast.Name):
                    self.assertIn(node.id, known)
                if isinstance(node, ast.Attribute):
                    self.assertIn(node.attr, METHODS)

    def test_imports(self):
        defined = {"recutfigures." + path.stem: list(tops(tree)) for path, tree in trees()}
        ahead = {"recutfigures." + path.stem: drawn(tree) for path, tree in trees()}
        for path, tree in trees():
            for node in ast.walk(tree):
                if isinstance(node, ast.ImportFrom):
                    self.assertIn(node, tree.body)
                    self.assertEqual(node.level, 0)
                    self.assertTrue(all(alias.asname is None for alias in node.names))
            for module, name in drawn(tree):
                self.assertIn(name, defined[module])
        self.assertEqual(ahead["recutfigures.__init__"], [])
        while ahead:
            free = [file for file in ahead if not any(module in ahead for module, _ in ahead[file])]
            self.assertNotEqual(free, [], "two files draw from one another")
            for file in free:
                del ahead[file]

    def test_calls_stand_where_the_document_says(self):
        for path, tree in trees():
            for name in tops(tree):
                if name in CALLS:
                    self.assertEqual(path.name, "cuttings.py")
        from recutfigures import cuttings
        wanted = ((cuttings.between, ("w", "f", "g")), (cuttings.why, ("f", "g", "c")), (cuttings.fewer, ("c",)),
                  (cuttings.slid, ("c",)), (cuttings.sizes, ("c",)))
        for call, names in wanted:
            code = call.__code__
            self.assertEqual(code.co_varnames[:code.co_argcount], names)
            self.assertIsNone(call.__defaults__)

    def test_every_import_and_function_is_used(self):
        used = set()
        for path, tree in trees():
            used |= {node.id for node in ast.walk(tree) if isinstance(node, ast.Name)}
        for path, tree in trees():
            text = {node.id for node in ast.walk(tree) if isinstance(node, ast.Name)}
            for module, name in drawn(tree):
                self.assertIn(name, text)
            for name in tops(tree):
                if name not in CALLS:
                    self.assertIn(name, used)


if __name__ == "__main__":
    unittest.main()
