"""The rules of LANGUAGE.md that can be seen row by row: those of forms, sizes, names, imports and builtins."""

import ast
import builtins
import re
import unittest
from pathlib import Path

PACKAGE = Path(__file__).resolve().parent.parent / "shiftfolds"
FILES = sorted(path for path in PACKAGE.rglob("*") if path.is_file() and "__pycache__" not in path.parts)
LIBRARY = {
    "heapq": "heappush heappop heapify heapreplace heappushpop", "math": "gcd lcm isqrt comb perm factorial",
    "itertools": "product combinations permutations chain accumulate pairwise islice zip_longest",
    "collections": "defaultdict", "__future__": "annotations",
}
ALLOWED_BUILTINS = """
len range enumerate zip min max sum abs sorted reversed int str bool list tuple dict set isinstance ord repr any all
divmod pow iter next map getattr hasattr setattr Exception ValueError TypeError KeyError IndexError LookupError
ZeroDivisionError ArithmeticError OverflowError RuntimeError NotImplementedError StopIteration NotImplemented property
staticmethod classmethod super
""".split()
METHODS = """
append clear copy count endswith extend find get index insert isalnum isalpha isdigit islower isspace isupper items
join keys ljust lower lstrip partition pop remove replace reverse rfind rjust rpartition rsplit rstrip setdefault split
splitlines startswith strip update upper values zfill bit_length title capitalize swapcase casefold center expandtabs
removeprefix removesuffix rindex isascii isdecimal isnumeric istitle isidentifier isprintable translate add discard
""".split()
DOUBLE = """
__init__ __eq__ __repr__ __str__ __len__ __enter__ __exit__ __call__ __iter__ __lt__ __le__ __gt__ __ge__ __ne__
""".split()
STATEMENTS = (
    ast.Assign, ast.AugAssign, ast.AnnAssign, ast.If, ast.While, ast.For, ast.Return, ast.Break, ast.Continue, ast.Pass,
    ast.Raise, ast.Assert, ast.Delete, ast.Nonlocal, ast.Match, ast.With, ast.Try, ast.Expr, ast.FunctionDef,
)
NO_NAMES = """
register mro elements open input law version_info with_traceback add_note attrgetter breakpoint compile copyright
credits delattr dir eval exec exit gc globals help id importlib license locals methodcaller os quit type vars sys
""".split()
NO_WORDS = re.compile(
    r"\b(typing|typing_extensions|enum|Enum|IntEnum|StrEnum|Flag|IntFlag|Generic|Protocol|ABC|ABCMeta|namedtuple|"
    r"NamedTuple|TypedDict|TYPE_CHECKING|abstractmethod|_wall|_WallAttr)\b|dataclass|overload|contextmanager"
)


def trees():
    return [(path, ast.parse(path.read_text())) for path in FILES]


def nodes(*kinds):
    return [(path, node) for path, tree in trees() for node in ast.walk(tree) if isinstance(node, kinds)]


def docstrings(tree):
    found = []
    for node in ast.walk(tree):
        if isinstance(node, (ast.Module, ast.ClassDef, ast.FunctionDef)) and ast.get_docstring(node) is not None:
            found.append(node.body[0].value)
    return found


def bound_names(node):
    """The names that a node binds, those of attributes left out."""
    if isinstance(node, ast.Name) and isinstance(node.ctx, ast.Store):
        return [node.id]
    if isinstance(node, (ast.FunctionDef, ast.ClassDef)):
        return [node.name]
    if isinstance(node, ast.arg):
        return [node.arg]
    if isinstance(node, ast.ExceptHandler) and node.name:
        return [node.name]
    return []


class LanguageTest(unittest.TestCase):
    def assert_none(self, rule, found):
        self.assertEqual([f"{rule} {path.name}:{getattr(node, 'lineno', node)}" for path, node in found], [])

    def test_files(self):
        for path in FILES:
            self.assertRegex(path.name, r"^[a-z0-9_]+\.py$")
            text = path.read_text(encoding="ascii")
            lines = text.splitlines()
            self.assertLessEqual(len(lines), 399, path)
            for line in lines:
                self.assertLessEqual(len(line), 120, (path, line))
                self.assertRegex(line, r"^[ -~]*$")
            self.assertNotIn("\r", text)

    def test_functions_are_small_and_plain(self):
        long = [(path, node) for path, node in nodes(ast.FunctionDef) if node.end_lineno - node.lineno >= 40]
        self.assert_none("L10", long)
        self.assert_none("L4", [pair for pair in nodes(ast.FunctionDef) if pair[1].decorator_list])
        self.assert_none("L5", [pair for pair in nodes(ast.ClassDef) if pair[1].decorator_list or pair[1].keywords])

    def test_imports(self):
        self.assert_none("L16", nodes(ast.Import))
        edges = {}
        for path, node in nodes(ast.ImportFrom):
            names = [alias.name for alias in node.names]
            self.assertEqual(node.level, 0)
            self.assertFalse([alias for alias in node.names if alias.asname and node.module in LIBRARY])
            if node.module in LIBRARY:
                self.assertTrue(set(names) <= set(LIBRARY[node.module].split()), (path, names))
                continue
            package, _, module = node.module.partition(".")
            self.assertEqual(package, "shiftfolds")
            tree = ast.parse((PACKAGE / f"{module}.py").read_text())
            own = {name for part in tree.body for name in bound_names(part)}
            own |= {target.id for part in tree.body if isinstance(part, ast.Assign) for target in part.targets}
            self.assertTrue(set(names) <= own, (path, names))
            edges.setdefault(path.stem, set()).add(module)
        for module in edges:
            reached, waiting = set(), [module]
            while waiting:
                for other in edges.get(waiting.pop(), ()):
                    if other not in reached:
                        reached.add(other)
                        waiting.append(other)
            self.assertNotIn(module, reached)

    def test_each_import_is_used(self):
        for path, tree in trees():
            used = {node.id for node in ast.walk(tree) if isinstance(node, ast.Name)}
            for node in tree.body:
                if isinstance(node, ast.ImportFrom):
                    for alias in node.names:
                        self.assertIn(alias.asname or alias.name, used, path)

    def test_module_level(self):
        for path, tree in trees():
            names = []
            for at, node in enumerate(tree.body):
                if isinstance(node, ast.ImportFrom):
                    names += [alias.asname or alias.name for alias in node.names]
                elif isinstance(node, ast.Assign):
                    self.assertEqual(len(node.targets), 1)
                    self.assertIsInstance(node.targets[0], ast.Name)
                    self.assertIsInstance(node.value, (ast.Constant, ast.Tuple, ast.List, ast.Dict))
                    names.append(node.targets[0].id)
                elif isinstance(node, (ast.FunctionDef, ast.ClassDef)):
                    names.append(node.name)
                else:
                    self.assertTrue(at == 0 and isinstance(node, ast.Expr), (path, node.lineno))
            self.assertEqual(len(names), len(set(names)), path)

    def test_statements_and_expressions(self):
        others = [
            pair for pair in nodes(ast.stmt) if not isinstance(pair[1], STATEMENTS + (ast.ClassDef, ast.ImportFrom))
        ]
        self.assert_none("L6", others)
        self.assert_none("L7", nodes(ast.Div, ast.Await, ast.AsyncFor, ast.AsyncWith, ast.AsyncFunctionDef, ast.MatMult))
        for path, node in nodes(ast.Constant):
            self.assertNotIsInstance(node.value, (float, complex), path)
            if isinstance(node.value, str):
                self.assertNotIn("%", node.value, path)
        for path, node in nodes(ast.Compare):
            for sign, right in zip(node.ops, node.comparators):
                if isinstance(sign, (ast.Is, ast.IsNot)):
                    self.assertIsInstance(right, ast.Constant, (path, node.lineno))

    def test_names(self):
        own = {name for _, tree in trees() for node in ast.walk(tree) for name in bound_names(node)}
        methods = {item.name for _, node in nodes(ast.ClassDef) for item in node.body if hasattr(item, "name")}
        for path, tree in trees():
            own_classes = {node.name for node in tree.body if isinstance(node, ast.ClassDef)}
            imports = {
                alias.name for node in tree.body if isinstance(node, ast.ImportFrom) for alias in node.names
            }
            for node in ast.walk(tree):
                for name in bound_names(node):
                    self.assertRegex(name, r"^(_|_?[a-z][a-z0-9_]*|_?[A-Z][A-Za-z0-9_]*|__[a-z]+__)$")
                    self.assertNotIn(name, NO_NAMES, path)
                    if name.startswith("__"):
                        self.assertIn(name, DOUBLE)
                    elif name not in methods:
                        self.assertFalse(hasattr(builtins, name), (path, name))
                if isinstance(node, (ast.Name, ast.arg)) and bound_names(node):
                    self.assertNotIn(bound_names(node)[0], own_classes | imports, path)
                if isinstance(node, ast.Name) and isinstance(node.ctx, ast.Load) and hasattr(builtins, node.id):
                    if node.id not in own:
                        self.assertIn(node.id, ALLOWED_BUILTINS, (path, node.lineno))
        for name in methods:
            self.assertTrue(name in DOUBLE or name in METHODS or not hasattr(str, name) and not hasattr(dict, name))

    def test_methods_called(self):
        methods = {item.name for _, node in nodes(ast.ClassDef) for item in node.body if hasattr(item, "name")}
        for path, node in nodes(ast.Call):
            if isinstance(node.func, ast.Attribute):
                self.assertIn(node.func.attr, set(METHODS) | methods, (path, node.lineno))

    def test_generator_expressions_stand_in_no_all(self):
        for path, node in nodes(ast.Call):
            if isinstance(node.func, ast.Name) and node.func.id in ("any", "all", "min", "max", "sum", "sorted"):
                for argument in node.args:
                    self.assertNotIsInstance(argument, ast.GeneratorExp, (path, node.lineno))

    def test_words_that_do_not_occur(self):
        for path, tree in trees():
            told = {id(node) for node in docstrings(tree)}
            for node in ast.walk(tree):
                words = [getattr(node, "id", ""), getattr(node, "attr", ""), getattr(node, "arg", "") or ""]
                if isinstance(node, ast.Constant) and isinstance(node.value, str) and id(node) not in told:
                    words.append(node.value)
                for word in words:
                    self.assertIsNone(NO_WORDS.search(word), (path, word))
                    self.assertNotEqual(word, "type")

    def test_errors_are_made_where_they_are_raised(self):
        for path, node in nodes(ast.Raise):
            self.assertTrue(node.exc is None or isinstance(node.exc, ast.Call), (path, node.lineno))
        for path, node in nodes(ast.ExceptHandler):
            self.assertIsNotNone(node.type, (path, node.lineno))

    def test_sets_are_stored_nowhere_but_in_variables(self):
        for path, node in nodes(ast.For, ast.comprehension):
            self.assertNotIsInstance(node.iter, (ast.Set, ast.SetComp), path)
        for path, node in nodes(ast.Return):
            self.assertNotIsInstance(node.value, (ast.Set, ast.SetComp), (path, node.lineno))


if __name__ == "__main__":
    unittest.main()
