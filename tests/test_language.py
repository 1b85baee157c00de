"""Some of the rules of the language, where a short look at the files of the package can tell."""

import ast
import builtins
import unittest
from pathlib import Path

PACKAGE = Path(__file__).resolve().parent.parent / "fleuron"
ALLOWED_BUILTINS = (
    "len range enumerate zip min max sum abs sorted reversed int str bool list tuple dict set isinstance ord repr any "
    "all divmod map iter next ValueError"
).split()
BUILTIN_NAMES = [name for name in dir(builtins) if not name.startswith("__")]
UNUSED_NAMES = "register mro elements open input law version_info with_traceback add_note".split()
UNUSED_WORDS = (
    "type typing enum Enum Flag Generic Protocol ABC namedtuple NamedTuple TypedDict TYPE_CHECKING abstractmethod"
).split()
ALLOWED_METHODS = (
    "append clear copy count endswith extend find get index insert isalnum isalpha isdigit islower isspace isupper "
    "items join keys ljust lower lstrip partition pop remove replace reverse rfind rjust rpartition rsplit rstrip "
    "setdefault split splitlines startswith strip update upper values zfill bit_length __init__"
).split()
FORBIDDEN_NODES = (
    ast.Global, ast.AsyncFunctionDef, ast.AsyncFor, ast.AsyncWith, ast.Await, ast.Div, ast.MatMult, ast.Import,
)


def files():
    """Return the files of the package."""
    return sorted(PACKAGE.glob("*.py"))


def trees():
    """Return the files of the package with their syntax trees."""
    return [(path.name, ast.parse(path.read_text())) for path in files()]


def defined_names(tree):
    """Return the names that a file gives to something."""
    names = []
    for node in ast.walk(tree):
        if isinstance(node, (ast.FunctionDef, ast.ClassDef)):
            names.append(node.name)
        elif isinstance(node, ast.Name) and isinstance(node.ctx, ast.Store):
            names.append(node.id)
        elif isinstance(node, ast.arg):
            names.append(node.arg)
        elif isinstance(node, ast.alias):
            names.append(node.asname or node.name)
    return names


class LanguageTest(unittest.TestCase):
    def test_the_folder_contains_nothing_else(self):
        others = [path.name for path in PACKAGE.iterdir() if path.suffix != ".py" and path.name != "__pycache__"]
        self.assertEqual(others, [])
        self.assertIn(PACKAGE / "__init__.py", files())

    def test_sizes_and_characters(self):
        for path in files():
            text = path.read_bytes().decode("ascii")
            lines = text.split("\n")
            self.assertLessEqual(len(lines), 400, path.name)
            for number, line in enumerate(lines, start=1):
                self.assertLessEqual(len(line), 120, (path.name, number))
                self.assertTrue(all(" " <= sign <= "~" for sign in line), (path.name, number))

    def test_sizes_of_functions(self):
        for name, tree in trees():
            for node in ast.walk(tree):
                if isinstance(node, ast.FunctionDef):
                    self.assertLessEqual(node.end_lineno - node.lineno + 1, 40, (name, node.name))
                    self.assertEqual(node.decorator_list, [], (name, node.name))

    def test_imports(self):
        for name, tree in trees():
            for node in ast.walk(tree):
                if isinstance(node, ast.ImportFrom):
                    self.assertIn(node, tree.body, name)
                    self.assertEqual(node.level, 0, name)
                    library = node.module == "math" and all(alias.name == "gcd" for alias in node.names)
                    self.assertTrue(node.module.startswith("fleuron.") or library, (name, node.module))
                    self.assertTrue(all(alias.asname is None for alias in node.names), name)

    def test_statements_and_expressions(self):
        for name, tree in trees():
            for node in ast.walk(tree):
                self.assertNotIsInstance(node, FORBIDDEN_NODES, (name, getattr(node, "lineno", None)))
                if isinstance(node, ast.Constant):
                    self.assertNotIsInstance(node.value, (float, complex), (name, node.lineno))

    def test_module_level(self):
        allowed = (ast.Expr, ast.ImportFrom, ast.FunctionDef, ast.ClassDef, ast.Assign)
        for name, tree in trees():
            bound = []
            for node in tree.body:
                self.assertIsInstance(node, allowed, (name, node.lineno))
                if isinstance(node, ast.Assign):
                    calls = [part for part in ast.walk(node) if isinstance(part, ast.Call)]
                    self.assertEqual(calls, [], (name, node.lineno))
                    bound.extend(target.id for target in node.targets)
                elif isinstance(node, ast.ImportFrom):
                    bound.extend(alias.name for alias in node.names)
                elif not isinstance(node, ast.Expr):
                    bound.append(node.name)
            self.assertEqual(len(bound), len(set(bound)), name)

    def test_names(self):
        for name, tree in trees():
            for defined in defined_names(tree):
                self.assertNotIn(defined, UNUSED_NAMES, name)
                self.assertNotIn(defined, BUILTIN_NAMES, name)
                self.assertTrue(defined == "__init__" or not defined.startswith("__"), (name, defined))

    def test_locals_do_not_have_the_names_of_classes_and_imports(self):
        for name, tree in trees():
            taken = [node.name for node in tree.body if isinstance(node, ast.ClassDef)]
            taken += [alias.name for node in tree.body if isinstance(node, ast.ImportFrom) for alias in node.names]
            for node in ast.walk(tree):
                if isinstance(node, ast.FunctionDef):
                    inner = [given for given in defined_names(node) if given != node.name]
                    self.assertEqual([given for given in inner if given in taken], [], (name, node.name))

    def test_builtins_and_methods(self):
        functions = [node.name for _, tree in trees() for node in ast.walk(tree) if isinstance(node, ast.FunctionDef)]
        for name, tree in trees():
            for node in ast.walk(tree):
                if isinstance(node, ast.Name) and node.id in BUILTIN_NAMES:
                    self.assertIn(node.id, ALLOWED_BUILTINS, (name, node.lineno))
                if isinstance(node, ast.Call) and isinstance(node.func, ast.Attribute):
                    self.assertIn(node.func.attr, ALLOWED_METHODS + functions, (name, node.lineno))

    def test_names_of_methods(self):
        taken = [name for kind in (str, int, list, dict, set, bytes) for name in dir(kind) if not name.startswith("__")]
        for name, tree in trees():
            methods = [
                part.name for node in ast.walk(tree) if isinstance(node, ast.ClassDef)
                for part in node.body if isinstance(part, ast.FunctionDef)
            ]
            self.assertEqual([method for method in methods if method in taken], [], name)

    def test_words_in_strings(self):
        for name, tree in trees():
            docstrings = [
                node.body[0].value for node in ast.walk(tree)
                if isinstance(node, (ast.Module, ast.FunctionDef, ast.ClassDef)) and ast.get_docstring(node) is not None
            ]
            for node in ast.walk(tree):
                if isinstance(node, ast.Constant) and isinstance(node.value, str) and node not in docstrings:
                    self.assertNotIn("%", node.value, (name, node.lineno))
                    words = node.value.replace(".", " ").split()
                    self.assertEqual([word for word in words if word in UNUSED_WORDS], [], (name, node.lineno))

    def test_attributes_are_assigned_through_a_name(self):
        for name, tree in trees():
            for node in ast.walk(tree):
                if isinstance(node, ast.Attribute) and not isinstance(node.ctx, ast.Load):
                    self.assertIsInstance(node.value, ast.Name, (name, node.lineno))

    def test_no_two_files_import_from_each_other(self):
        imported = {}
        for name, tree in trees():
            sources = [node.module for node in tree.body if isinstance(node, ast.ImportFrom)]
            imported[name] = [source.split(".")[-1] + ".py" for source in sources if source.startswith("fleuron.")]
        for name in imported:
            reached, waiting = [], list(imported[name])
            while waiting:
                current = waiting.pop()
                if current not in reached:
                    reached.append(current)
                    waiting.extend(imported[current])
            self.assertNotIn(name, reached)


if __name__ == "__main__":
    unittest.main()
