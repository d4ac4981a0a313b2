"""What can be seen of the rules of LANGUAGE.md in the files of the package."""

import ast
import builtins
import pathlib
import unittest

PACKAGE = pathlib.Path(__file__).resolve().parent.parent / "takenout"
FILES = sorted(path for path in PACKAGE.iterdir() if path.name != "__pycache__")
CALLED = {
    "len", "range", "enumerate", "zip", "min", "max", "sum", "abs", "sorted", "reversed", "int", "str",
    "bool", "list", "tuple", "dict", "set", "isinstance", "repr", "any", "all", "divmod",
    "ValueError", "LookupError",
}
METHODS = set((
    "append clear copy count endswith extend find get index insert isalnum isalpha isdigit islower "
    "isspace isupper items join keys ljust lower lstrip partition pop remove replace reverse rfind "
    "rjust rpartition rsplit rstrip setdefault split splitlines startswith strip update upper values "
    "zfill bit_length add discard"
).split())
DUNDERS = {"__init__", "__eq__", "__repr__", "__str__", "__len__"}
BARRED_NODES = (
    ast.AsyncFunctionDef, ast.Global, ast.Await, ast.Div, ast.SetComp, ast.With, ast.Yield, ast.YieldFrom,
    ast.GeneratorExp, ast.NamedExpr, ast.Match, ast.Nonlocal, ast.JoinedStr,
)
LIBRARY = {"heapq": {"heappush", "heappop"}, "itertools": {"permutations"}}
BARRED_WORDS = {
    "register", "mro", "elements", "open", "input", "law", "version_info", "with_traceback", "add_note",
    "type", "typing", "enum", "Enum", "dataclass", "namedtuple",
}


def trees():
    """Each file of the package with its text and its tree."""
    for path in FILES:
        text = path.read_text()
        yield path.name, text, ast.parse(text)


def own_methods():
    """The names of all methods of the package."""
    return {
        row.name
        for _, _, tree in trees()
        for node in ast.walk(tree) if isinstance(node, ast.ClassDef)
        for row in node.body if isinstance(row, ast.FunctionDef)
    }


def defined(tree):
    """The names that a module binds by itself."""
    names = [node.name for node in tree.body if isinstance(node, (ast.FunctionDef, ast.ClassDef))]
    return names + [node.targets[0].id for node in tree.body if isinstance(node, ast.Assign)]


def imports(tree):
    """The imports from files of the package that stand at the top of a module."""
    return [
        node for node in tree.body if isinstance(node, ast.ImportFrom) and node.module not in LIBRARY
    ]


def own_errors():
    """The names of all classes of the package that its errors file defines."""
    return {name for file, _, tree in trees() if file == "errors.py" for name in defined(tree)}


def bound(tree):
    """All names that are assigned or are parameters anywhere in a module."""
    for node in ast.walk(tree):
        if isinstance(node, ast.Name) and not isinstance(node.ctx, ast.Load):
            yield node.id
        if isinstance(node, ast.arg):
            yield node.arg


class TestFiles(unittest.TestCase):
    def test_names_and_sizes(self):
        for path in FILES:
            self.assertRegex(path.name, r"^[a-z_]+\.py$")
        for name, text, _ in trees():
            self.assertTrue(all(sign == "\n" or " " <= sign <= "~" for sign in text), name)
            self.assertLessEqual(len(text.splitlines()), 399, name)
            self.assertLessEqual(max(map(len, text.splitlines())), 120, name)

    def test_functions_are_small(self):
        for name, _, tree in trees():
            for node in ast.walk(tree):
                if isinstance(node, ast.FunctionDef):
                    self.assertLessEqual(node.end_lineno - node.lineno + 1, 40, f"{name} {node.name}")
                    self.assertEqual(node.decorator_list, [])

    def test_module_level(self):
        allowed = (ast.ImportFrom, ast.FunctionDef, ast.ClassDef, ast.Assign)
        for name, _, tree in trees():
            self.assertIsNotNone(ast.get_docstring(tree), name)
            for node in tree.body[1:]:
                self.assertIsInstance(node, allowed, name)
            self.assertEqual(len(defined(tree)), len(set(defined(tree))), name)


class TestImports(unittest.TestCase):
    def test_from_the_file_that_defines(self):
        table = {name: defined(tree) for name, _, tree in trees()}
        for name, _, tree in trees():
            for node in ast.walk(tree):
                self.assertNotIsInstance(node, ast.Import, name)
                if isinstance(node, ast.ImportFrom) and node.module in LIBRARY:
                    self.assertLessEqual({alias.name for alias in node.names}, LIBRARY[node.module], name)
                    self.assertEqual({alias.asname for alias in node.names}, {None}, name)
                elif isinstance(node, ast.ImportFrom):
                    self.assertEqual((node.level, node.module.split(".")[0]), (0, "takenout"), name)
                    for alias in node.names:
                        self.assertIn(alias.name, table[node.module.split(".")[1] + ".py"], name)
                        self.assertIsNone(alias.asname)

    def test_library_is_only_called(self):
        library = {name for names in LIBRARY.values() for name in names}
        for name, _, tree in trees():
            called = {id(node.func) for node in ast.walk(tree) if isinstance(node, ast.Call)}
            for node in ast.walk(tree):
                if isinstance(node, ast.Name) and node.id in library:
                    self.assertIn(id(node), called, name)
                if isinstance(node, ast.Call) and isinstance(node.func, ast.Name) and node.func.id in library:
                    self.assertEqual(node.keywords, [], name)

    def test_permutations_are_iterated_at_once(self):
        for name, _, tree in trees():
            nodes = list(ast.walk(tree))
            heads = {id(node.iter) for node in nodes if isinstance(node, (ast.For, ast.comprehension))}
            for node in nodes:
                if isinstance(node, ast.Call) and getattr(node.func, "id", None) == "permutations":
                    self.assertIn(id(node), heads, name)

    def test_no_circle(self):
        left = {
            name: {node.module.split(".")[1] + ".py" for node in imports(tree)}
            for name, _, tree in trees()
        }
        while left:
            free = [name for name, needs in left.items() if not needs & set(left)]
            self.assertTrue(free, left)
            for name in free:
                del left[name]


class TestTables(unittest.TestCase):
    def test_tables_are_only_read(self):
        for name, _, tree in trees():
            tables = [
                node.targets[0].id for node in tree.body
                if isinstance(node, ast.Assign) and isinstance(node.value, (ast.Dict, ast.List))
            ]
            for node in ast.walk(tree):
                if isinstance(node, ast.Subscript) and getattr(node.value, "id", None) in tables:
                    self.assertIsInstance(node.ctx, ast.Load, name)
                # What a table has is given a name before it is called.
                if isinstance(node, ast.Call):
                    self.assertNotIsInstance(node.func, (ast.Subscript, ast.Call), name)


class TestNames(unittest.TestCase):
    def test_no_builtin_is_hidden(self):
        for name, _, tree in trees():
            hidden = (set(defined(tree)) | set(bound(tree))) & set(vars(builtins))
            self.assertEqual(hidden, set(), name)

    def test_no_import_or_class_is_hidden(self):
        for name, _, tree in trees():
            imported = {
                alias.name for node in tree.body if isinstance(node, ast.ImportFrom) for alias in node.names
            }
            classes = {node.name for node in tree.body if isinstance(node, ast.ClassDef)}
            inner = {
                found for node in tree.body if not isinstance(node, ast.Assign) for found in bound(node)
            }
            self.assertEqual(inner & (imported | classes), set(), name)

    def test_barred_words(self):
        for name, _, tree in trees():
            for node in ast.walk(tree):
                for told in ("id", "arg", "attr", "name"):
                    word = getattr(node, told, None)
                    self.assertFalse(isinstance(word, str) and word in BARRED_WORDS, f"{name} {word}")

    def test_double_underscores(self):
        for name, _, tree in trees():
            for node in ast.walk(tree):
                if isinstance(node, ast.FunctionDef) and node.name.startswith("__"):
                    self.assertIn(node.name, DUNDERS, name)
                if isinstance(node, ast.Attribute):
                    self.assertFalse(node.attr.startswith("__"), name)


class TestStatements(unittest.TestCase):
    def test_nothing_barred_or_not_needed(self):
        for name, _, tree in trees():
            for node in ast.walk(tree):
                self.assertNotIsInstance(node, BARRED_NODES, f"{name} {getattr(node, 'lineno', 0)}")
                if isinstance(node, ast.Constant):
                    self.assertNotIsInstance(node.value, (float, complex), name)
                    self.assertFalse(isinstance(node.value, str) and "%" in node.value, name)

    def test_own_errors_alone_are_caught(self):
        errors = own_errors()
        for name, _, tree in trees():
            for node in ast.walk(tree):
                if isinstance(node, ast.Try):
                    self.assertEqual(node.finalbody, [], name)
                    for handler in node.handlers:
                        self.assertIsInstance(handler.type, ast.Name, name)
                        self.assertIn(handler.type.id, errors, name)

    def test_builtins_that_are_called(self):
        for name, _, tree in trees():
            for node in ast.walk(tree):
                if isinstance(node, ast.Name) and node.id in vars(builtins):
                    self.assertIn(node.id, CALLED, name)

    def test_methods_that_are_called(self):
        own = own_methods()
        for name, _, tree in trees():
            for node in ast.walk(tree):
                if isinstance(node, ast.Call) and isinstance(node.func, ast.Attribute):
                    self.assertIn(node.func.attr, METHODS | own, name)

    def test_is_with_plain_values_alone(self):
        for name, _, tree in trees():
            for node in ast.walk(tree):
                if isinstance(node, ast.Compare):
                    for sign, other in zip(node.ops, node.comparators):
                        if isinstance(sign, (ast.Is, ast.IsNot)):
                            self.assertIsInstance(other, ast.Constant, name)
                            self.assertIn(other.value, (None, True, False), name)


if __name__ == "__main__":
    unittest.main()
