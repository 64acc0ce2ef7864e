"""The form of the code: the rules of ../shared/LANGUAGE.md that can be seen file by file."""

import ast
import builtins
import pathlib
import re
import unittest

PACKAGE = pathlib.Path(__file__).resolve().parent.parent / "guestcopies"
ALLOWED_BUILTINS = set("""
    len range enumerate zip min max sum abs sorted reversed int str bool bytes list tuple dict set frozenset isinstance
    ord repr any all divmod Exception ValueError TypeError KeyError IndexError LookupError ZeroDivisionError
    ArithmeticError OverflowError RuntimeError NotImplementedError AttributeError StopIteration NotImplemented super
    property staticmethod classmethod
""".split())
BARRED_WORDS = re.compile(
    r"\b(type|typing|typing_extensions|enum|Enum|IntEnum|StrEnum|Flag|IntFlag|Generic|Protocol|ABC|ABCMeta|namedtuple"
    r"|NamedTuple|TypedDict|TYPE_CHECKING|abstractmethod)\b|dataclass|overload|contextmanager")
BARRED_NAMES = set("""
    register mro elements open input version_info with_traceback add_note attrgetter breakpoint builtins compile
    copyright credits delattr dir eval exec exit gc getattr globals hasattr help id importlib license locals
    methodcaller os quit setattr vars sys
""".split())
VALUE_METHODS = set("""
    append clear copy count endswith extend find get index insert isalnum isalpha isdigit islower isspace isupper items
    join keys ljust lower lstrip partition pop remove replace reverse rfind rjust rpartition rsplit rstrip setdefault
    split splitlines startswith strip update upper values zfill bit_length title capitalize swapcase casefold center
    expandtabs removeprefix removesuffix rindex isascii isdecimal isnumeric istitle isidentifier isprintable sort add
    discard
""".split())
BARRED_NODES = (ast.Global, ast.AsyncFunctionDef, ast.AsyncFor, ast.AsyncWith, ast.Await, ast.Import, ast.Div)


def sources():
    """Each file of the package with its text."""
    return [(path, path.read_text("utf-8")) for path in sorted(PACKAGE.glob("*.py"))]


def nodes_of(text):
    return list(ast.walk(ast.parse(text)))


def bound_names(nodes):
    """All names that a file gives to something."""
    names = [node.id for node in nodes if isinstance(node, ast.Name) and isinstance(node.ctx, ast.Store)]
    names += [node.arg for node in nodes if isinstance(node, ast.arg)]
    names += [node.name for node in nodes if isinstance(node, (ast.FunctionDef, ast.ClassDef))]
    names += [node.attr for node in nodes if isinstance(node, ast.Attribute) and isinstance(node.ctx, ast.Store)]
    return names


def imports_of(nodes):
    """Each imported name with the file that it is from."""
    return [(alias.name, node.module.partition(".")[2]) for node in nodes if isinstance(node, ast.ImportFrom)
            for alias in node.names]


def methods_of(nodes):
    """The names of all methods of a file's classes."""
    return {part.name for node in nodes if isinstance(node, ast.ClassDef) for part in node.body
            if isinstance(part, ast.FunctionDef)}


def assigned_attributes(nodes):
    """The names of all attributes that are assigned in a file."""
    return {node.attr for node in nodes if isinstance(node, ast.Attribute) and isinstance(node.ctx, ast.Store)}


class Files(unittest.TestCase):

    def test_the_folder_has_python_files_of_plain_names_only(self):
        found = [path for path in PACKAGE.iterdir() if path.name != "__pycache__"]
        self.assertIn(PACKAGE / "__init__.py", found)
        for path in found:
            self.assertRegex(path.name, r"^([a-z][a-z0-9_]*|__init__)\.py$")

    def test_signs_and_sizes(self):
        for path, text in sources():
            self.assertRegex(text, r"\A[ -~\n]*\Z", path.name)
            self.assertIsNone(BARRED_WORDS.search(text), path.name)
            rows = text.split("\n")
            self.assertLessEqual(len(rows), 400, path.name)
            self.assertLessEqual(max(len(row) for row in rows), 120, path.name)
            for node in nodes_of(text):
                if isinstance(node, ast.FunctionDef):
                    self.assertLessEqual(node.end_lineno - node.lineno + 1, 40, node.name)


class Code(unittest.TestCase):

    def test_imports_name_the_file_that_defines_the_name(self):
        defined = {path.stem: set(bound_names(nodes_of(text))) for path, text in sources()}
        for path, text in sources():
            for node in nodes_of(text):
                if isinstance(node, ast.ImportFrom):
                    self.assertEqual(node.level, 0, path.name)
                    self.assertRegex(node.module, r"^guestcopies\.[a-z]+$", path.name)
                    for alias in node.names:
                        self.assertIn(alias.name, defined[node.module.partition(".")[2]], path.name)

    def test_names(self):
        for path, text in sources():
            names = bound_names(nodes_of(text))
            for name in names:
                self.assertTrue(name == "__init__" or not name.startswith("_"), (path.name, name))
                self.assertFalse(name in vars(builtins) or name in BARRED_NAMES, (path.name, name))

    def test_no_local_name_is_that_of_an_import_or_a_class(self):
        for path, text in sources():
            nodes = nodes_of(text)
            taken = {name for name, module in imports_of(nodes)}
            taken |= {node.name for node in nodes if isinstance(node, ast.ClassDef)}
            for node in nodes:
                if isinstance(node, ast.FunctionDef):
                    inner = [part for part in ast.walk(node) if part is not node]
                    names = [part.id for part in inner if isinstance(part, ast.Name) and isinstance(part.ctx, ast.Store)]
                    names += [part.arg for part in inner if isinstance(part, ast.arg)]
                    names += [part.name for part in inner if isinstance(part, ast.ExceptHandler)]
                    self.assertFalse(taken & set(names), (path.name, node.name))

    def test_a_name_is_bound_once_at_module_level(self):
        for path, text in sources():
            names = [name for name, module in imports_of(nodes_of(text))]
            for node in ast.parse(text).body:
                names += [node.name] if isinstance(node, (ast.FunctionDef, ast.ClassDef)) else []
                names += [target.id for target in node.targets] if isinstance(node, ast.Assign) else []
            self.assertEqual(sorted(names), sorted(set(names)), path.name)

    def test_no_import_is_unused(self):
        for path, text in sources():
            nodes = nodes_of(text)
            used = {node.id for node in nodes if isinstance(node, ast.Name)}
            for name, module in imports_of(nodes):
                self.assertIn(name, used, path.name)

    def test_no_files_import_from_each_other(self):
        waiting = {path.stem: {module for name, module in imports_of(nodes_of(text))} for path, text in sources()}
        while waiting:
            free = [stem for stem, modules in waiting.items() if not modules & set(waiting)]
            self.assertTrue(free, sorted(waiting))
            for stem in free:
                del waiting[stem]

    def test_methods_and_attributes(self):
        every = [nodes_of(text) for path, text in sources()]
        methods = set().union(*[methods_of(nodes) for nodes in every])
        attributes = set().union(*[assigned_attributes(nodes) for nodes in every])
        self.assertFalse(methods & attributes)
        for nodes in every:
            for node in nodes:
                if isinstance(node, ast.Attribute):
                    self.assertIn(node.attr, methods | attributes | VALUE_METHODS)

    def test_only_the_allowed_builtins_are_used(self):
        for path, text in sources():
            for node in nodes_of(text):
                if isinstance(node, ast.Name) and node.id in vars(builtins):
                    self.assertIn(node.id, ALLOWED_BUILTINS, path.name)

    def test_values_and_statements(self):
        for path, text in sources():
            for node in nodes_of(text):
                self.assertNotIsInstance(node, BARRED_NODES, path.name)
                if isinstance(node, ast.Constant):
                    self.assertNotIsInstance(node.value, (float, complex), path.name)
                    self.assertFalse(isinstance(node.value, str) and "%" in node.value, path.name)
                if isinstance(node, ast.ExceptHandler):
                    self.assertIsNotNone(node.type, path.name)

    def test_module_level_has_no_code_that_runs(self):
        for path, text in sources():
            for node in ast.parse(text).body:
                docstring = isinstance(node, ast.Expr) and isinstance(node.value, ast.Constant)
                allowed = isinstance(node, (ast.ImportFrom, ast.FunctionDef, ast.ClassDef, ast.Assign))
                self.assertTrue(docstring or allowed, (path.name, node.lineno))


if __name__ == "__main__":
    unittest.main()
