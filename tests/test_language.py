"""What can be seen by a look of ../shared/LANGUAGE.md in the files of the package."""

import ast
import builtins
import re
import unittest
from pathlib import Path

FOLDER = Path(__file__).resolve().parent.parent / "poundmeets"
FILES = sorted(FOLDER.rglob("*.py"))
LIBRARY = {
    "heapq": {"heappush", "heappop", "heapify", "heapreplace", "heappushpop"},
    "math": {"gcd", "lcm", "isqrt", "comb", "perm", "factorial"},
    "itertools": {
        "product", "combinations", "permutations", "chain", "accumulate", "pairwise",
        "islice", "zip_longest",
    },
    "collections": {"defaultdict"},
}
BUILTINS = set(
    "len range enumerate zip min max sum abs sorted reversed int str bool list tuple dict set "
    "frozenset isinstance ord repr any all divmod pow map iter next getattr hasattr setattr "
    "property staticmethod classmethod super Exception ValueError TypeError KeyError IndexError "
    "LookupError ZeroDivisionError ArithmeticError OverflowError RuntimeError "
    "NotImplementedError AttributeError StopIteration NotImplemented".split()
)
METHODS = set(
    "append clear copy count endswith extend find get index insert isalnum isalpha isdigit "
    "islower isspace isupper items join keys ljust lower lstrip partition pop remove replace "
    "reverse rfind rjust rpartition rsplit rstrip setdefault split splitlines startswith strip "
    "update upper values zfill bit_length add discard isascii isdecimal removeprefix "
    "removesuffix".split()
)
BARRED_WORDS = re.compile(
    r"\b(type|typing|typing_extensions|enum|Enum|IntEnum|StrEnum|Flag|IntFlag|Generic|Protocol"
    r"|ABC|ABCMeta|namedtuple|NamedTuple|TypedDict|TYPE_CHECKING|abstractmethod)\b"
    r"|dataclass|overload|contextmanager|_wall|_WallAttr"
)
BARRED_NAMES = set(
    "register mro elements open input law version_info with_traceback add_note attrgetter "
    "breakpoint builtins compile copyright credits delattr dir eval exec exit gc globals help "
    "id importlib license locals methodcaller os quit type vars sys".split()
)
BARRED_NODES = (
    ast.Global, ast.AsyncFunctionDef, ast.AsyncFor, ast.AsyncWith, ast.Await, ast.Div, ast.Import,
    ast.MatMult,
)


def trees():
    """Each file with its tree and its text."""
    return [(file, ast.parse(file.read_text("ascii")), file.read_text("ascii")) for file in FILES]


def bound_names(tree):
    """All names that a file binds, its parameters among them, but not its methods."""
    methods = [
        part for node in ast.walk(tree) if isinstance(node, ast.ClassDef) for part in node.body
    ]
    for node in ast.walk(tree):
        if isinstance(node, ast.Name) and not isinstance(node.ctx, ast.Load):
            yield node.id
        elif isinstance(node, ast.arg):
            yield node.arg
        elif isinstance(node, (ast.FunctionDef, ast.ClassDef)) and node not in methods:
            yield node.name


class Language(unittest.TestCase):
    def test_the_folder_holds_files_of_python_alone(self):
        for path in FOLDER.rglob("*"):
            if "__pycache__" not in path.parts and path.is_file():
                self.assertRegex(path.name, r"^(__init__|__main__|[a-z][a-z0-9_]*)\.py$")
        self.assertTrue((FOLDER / "__init__.py").is_file())

    def test_sizes_and_signs(self):
        for file, tree, text in trees():
            lines = text.split("\n")
            self.assertLessEqual(len(lines), 399, file.name)
            for line in lines:
                self.assertLessEqual(len(line), 120, line)
                self.assertRegex(line, r"^[ -~]*$")
            for node in ast.walk(tree):
                if isinstance(node, ast.FunctionDef):
                    self.assertLessEqual(node.end_lineno - node.lineno + 1, 40, node.name)

    def test_imports(self):
        for file, tree, _ in trees():
            for node in ast.walk(tree):
                if isinstance(node, ast.ImportFrom):
                    self.check_import(file, tree, node)

    def check_import(self, file, tree, node):
        self.assertIn(node, tree.body, file.name)
        self.assertEqual(node.level, 0)
        names = {alias.name for alias in node.names}
        if node.module.startswith("poundmeets."):
            source = FOLDER / (node.module.split(".")[1] + ".py")
            here = {
                name for part in ast.parse(source.read_text()).body for name in top_names(part)
            }
            self.assertLessEqual(names, here, file.name)
        else:
            self.assertLessEqual(names, LIBRARY[node.module], file.name)
        self.assertTrue(all(alias.asname is None for alias in node.names))

    def test_no_ring_of_imports(self):
        wants = {
            file.stem: {
                node.module.split(".")[1] for node in tree.body
                if isinstance(node, ast.ImportFrom) and node.module.startswith("poundmeets.")
            }
            for file, tree, _ in trees()
        }
        while wants:
            free = [name for name in wants if not wants[name] & set(wants)]
            self.assertTrue(free, wants)
            for name in free:
                del wants[name]

    def test_module_level(self):
        for file, tree, _ in trees():
            for node in tree.body:
                kinds = (ast.ImportFrom, ast.FunctionDef, ast.ClassDef, ast.Assign, ast.Expr)
                self.assertIsInstance(node, kinds, file.name)
                if isinstance(node, ast.Expr):
                    self.assertIs(node, tree.body[0])
                if isinstance(node, ast.FunctionDef):
                    self.assertEqual(node.decorator_list, [])
            names = [name for node in tree.body for name in top_names(node)]
            self.assertEqual(len(names), len(set(names)), file.name)

    def test_classes(self):
        for file, tree, _ in trees():
            for node in ast.walk(tree):
                if isinstance(node, ast.ClassDef):
                    self.check_class(file, node)

    def check_class(self, file, node):
        methods = [part.name for part in node.body if isinstance(part, ast.FunctionDef)]
        self.assertEqual(len(methods), len(set(methods)), file.name)
        for name in methods:
            if name.startswith("__"):
                self.assertIn(name, ("__init__", "__eq__", "__repr__", "__len__"))
        for part in ast.walk(node):
            # What is assigned is no method, and it hangs on an object by a name of its own.
            if isinstance(part, ast.Attribute) and not isinstance(part.ctx, ast.Load):
                self.assertNotIn(part.attr, methods, file.name)
                self.assertIsInstance(part.value, ast.Name)
        self.assertEqual(node.decorator_list, [])
        self.assertIsInstance(ast.get_docstring(node), str)

    def test_what_is_summed_or_sorted_is_a_list(self):
        # As a class has an __eq__, these take no generator expressions.
        for file, tree, _ in trees():
            for node in ast.walk(tree):
                self.assertNotIsInstance(node, (ast.GeneratorExp, ast.Yield, ast.YieldFrom), file.name)

    def test_what_is_not_used(self):
        for file, tree, text in trees():
            for node in ast.walk(tree):
                self.assertNotIsInstance(node, BARRED_NODES, file.name)
                if isinstance(node, ast.Constant):
                    self.assertNotIsInstance(node.value, (float, complex), file.name)
                    if isinstance(node.value, str):
                        self.assertNotIn("%", node.value)
            code = re.sub(r"#.*", "", re.sub(r'""".*?"""', "", text, flags=re.S))
            self.assertIsNone(BARRED_WORDS.search(code), file.name)

    def test_names(self):
        for file, tree, _ in trees():
            imports = {
                alias.name for node in tree.body if isinstance(node, ast.ImportFrom)
                for alias in node.names
            }
            for name in bound_names(tree):
                self.assertNotIn(name, BARRED_NAMES | imports, file.name)
                self.assertFalse(hasattr(builtins, name), (file.name, name))

    def test_builtins_and_methods(self):
        own = {
            node.name for _, tree, _ in trees() for node in ast.walk(tree)
            if isinstance(node, ast.FunctionDef)
        }
        for file, tree, _ in trees():
            for node in ast.walk(tree):
                if isinstance(node, ast.Name) and hasattr(builtins, node.id):
                    self.assertIn(node.id, BUILTINS, file.name)
                if isinstance(node, ast.Call) and isinstance(node.func, ast.Attribute):
                    named = node.func.attr
                    self.assertIn(named, METHODS | own, file.name)


def top_names(node):
    """The names that a statement at module level binds."""
    if isinstance(node, (ast.FunctionDef, ast.ClassDef)):
        return [node.name]
    if isinstance(node, ast.ImportFrom):
        return [alias.name for alias in node.names]
    if isinstance(node, ast.Assign):
        return [target.id for target in node.targets]
    return []


if __name__ == "__main__":
    unittest.main()
