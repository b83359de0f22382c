"""The rules of LANGUAGE.md that can be seen in the text of a file; the others are for the reader."""

import ast
import builtins
import re
import unittest
import warnings
from pathlib import Path

PACKAGE = Path(__file__).resolve().parent.parent / "chartscribe"
FILES = sorted(PACKAGE.glob("*.py"))

BUILTINS = set("""len range enumerate zip min max sum abs sorted reversed int str bool bytes list tuple dict set
    frozenset isinstance ord repr any all divmod super property staticmethod classmethod object
    Exception ValueError TypeError KeyError IndexError LookupError ZeroDivisionError ArithmeticError OverflowError
    RuntimeError NotImplementedError AttributeError StopIteration NotImplemented""".split())
METHODS = set("""append clear copy count endswith extend find get index insert isalnum isalpha isdigit islower isspace
    isupper items join keys ljust lower lstrip partition pop remove replace reverse rfind rjust rpartition rsplit
    rstrip setdefault split splitlines startswith strip update upper values zfill bit_length title capitalize
    swapcase casefold center expandtabs removeprefix removesuffix rindex isascii isdecimal isnumeric istitle
    isidentifier isprintable translate sort add discard encode decode hex maketrans __init__""".split())
WORDS = set("""type typing typing_extensions enum Enum IntEnum StrEnum Flag IntFlag Generic Protocol ABC ABCMeta
    namedtuple NamedTuple TypedDict TYPE_CHECKING abstractmethod""".split())
BARRED = (ast.Global, ast.AsyncFunctionDef, ast.AsyncFor, ast.AsyncWith, ast.Await, ast.Import, ast.Div, ast.MatMult)
AT_MODULE_LEVEL = (ast.ImportFrom, ast.FunctionDef, ast.ClassDef, ast.Assign, ast.AnnAssign)


def tree_of(file):
    return ast.parse(file.read_text())


def nodes_of(file, *kinds):
    return [node for node in ast.walk(tree_of(file)) if isinstance(node, kinds)]


def bound_names(file):
    """All names that a file binds: by imports, definitions, parameters, targets and handlers."""
    names = [alias.asname or alias.name for node in nodes_of(file, ast.ImportFrom) for alias in node.names]
    names += [node.name for node in nodes_of(file, ast.FunctionDef, ast.ClassDef, ast.ExceptHandler) if node.name]
    names += [node.arg for node in nodes_of(file, ast.arg)]
    names += [node.id for node in nodes_of(file, ast.Name) if isinstance(node.ctx, ast.Store)]
    return names


def methods_of(file):
    """The names of the methods alone, which may be those of builtins."""
    return {part.name for node in nodes_of(file, ast.ClassDef) for part in node.body if isinstance(part, ast.FunctionDef)}


class TestLanguage(unittest.TestCase):
    def each_file(self):
        for file in FILES:
            with self.subTest(file.name):
                yield file

    def test_the_folder_holds_plain_files_only(self):
        names = [path.name for path in PACKAGE.iterdir() if path.name != "__pycache__"]
        self.assertIn("__init__.py", names)
        for name in names:
            self.assertRegex(name, r"\A([a-z][a-z0-9_]*|__init__|__main__)\.py\Z")

    def test_signs_words_and_sizes(self):
        for file in self.each_file():
            text = file.read_text()
            self.assertRegex(text, r"\A[ -~\n]*\Z")
            self.assertLessEqual(len(text.splitlines()), 400)
            self.assertLessEqual(max(len(line) for line in text.splitlines()), 120)
            self.assertEqual(WORDS & set(re.findall(r"\w+", text)), set())
            self.assertIsNone(re.search("dataclass|overload|contextmanager", text))
            for node in nodes_of(file, ast.FunctionDef):
                self.assertLessEqual(node.end_lineno - node.lineno + 1, 40, node.name)

    def test_python_gives_no_warning(self):
        for file in self.each_file():
            with warnings.catch_warnings():
                warnings.simplefilter("error")
                compile(file.read_text(), file.name, "exec")

    def test_module_level(self):
        for file in self.each_file():
            body = tree_of(file).body
            if body and isinstance(body[0], ast.Expr) and isinstance(body[0].value, ast.Constant):
                body = body[1:]
            for node in body:
                self.assertIsInstance(node, AT_MODULE_LEVEL)

    def test_barred_statements_and_signs(self):
        for file in self.each_file():
            self.assertEqual(nodes_of(file, *BARRED), [])
            for node in nodes_of(file, ast.Constant):
                self.assertNotIsInstance(node.value, (float, complex))
                if isinstance(node.value, str):
                    self.assertNotIn("%", node.value)
            for node in nodes_of(file, ast.BinOp):
                if isinstance(node.op, ast.Pow):
                    self.assertIn(ast.literal_eval(node.right), range(65))

    def test_imports_name_the_file_that_defines(self):
        for file in self.each_file():
            for node in nodes_of(file, ast.ImportFrom):
                self.assertEqual(node.level, 0)
                self.assertRegex(node.module, r"\Achartscribe\.\w+\Z")
                source = PACKAGE / (node.module.partition(".")[2] + ".py")
                defined = [part.name for part in tree_of(source).body if hasattr(part, "name")]
                defined += [target.id for part in tree_of(source).body if isinstance(part, ast.Assign)
                            for target in part.targets]
                for alias in node.names:
                    self.assertIn(alias.name, defined)

    def test_names(self):
        every = set(dir(builtins))
        for file in self.each_file():
            for name in bound_names(file):
                self.assertRegex(name, r"\A([A-Za-z][A-Za-z0-9_]*|__[a-z]+__)\Z")
                self.assertNotIn(name, every - methods_of(file))
            bound = set(bound_names(file))
            for node in nodes_of(file, ast.Name):
                self.assertIn(node.id, bound | BUILTINS)

    def test_methods_that_are_called(self):
        own = set().union(*[methods_of(file) for file in FILES])
        for file in self.each_file():
            for node in nodes_of(file, ast.Call):
                if isinstance(node.func, ast.Attribute):
                    self.assertIn(node.func.attr, own | METHODS)

    def test_is_stands_beside_none_true_and_false_only(self):
        for file in self.each_file():
            for node in nodes_of(file, ast.Compare):
                for sign, other in zip(node.ops, node.comparators):
                    if isinstance(sign, (ast.Is, ast.IsNot)):
                        self.assertIsInstance(other, ast.Constant)
                        self.assertIn(other.value, (None, True, False))

    def test_no_files_import_from_each_other(self):
        ahead = {}
        for file in FILES:
            ahead[file.stem] = {node.module.partition(".")[2] for node in nodes_of(file, ast.ImportFrom)}
        while ahead:
            free = [name for name in ahead if not ahead[name] & set(ahead)]
            self.assertNotEqual(free, [], f"a circle among {sorted(ahead)}")
            for name in free:
                del ahead[name]

    def test_no_name_is_bound_twice_at_module_level(self):
        for file in self.each_file():
            names = []
            for node in tree_of(file).body:
                names += [alias.name for alias in node.names] if isinstance(node, ast.ImportFrom) else []
                names += [node.name] if hasattr(node, "name") else []
                names += [target.id for target in node.targets] if isinstance(node, ast.Assign) else []
            self.assertEqual(len(set(names)), len(names))

    def test_no_name_is_a_method_and_an_attribute(self):
        own = set().union(*[methods_of(file) for file in FILES])
        for file in self.each_file():
            stored = {node.attr for node in nodes_of(file, ast.Attribute) if isinstance(node.ctx, ast.Store)}
            self.assertEqual(stored & own, set())


if __name__ == "__main__":
    unittest.main()
