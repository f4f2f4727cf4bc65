"""Holds the files of the package to those rules of shared/LANGUAGE.md that can be told from their trees."""

import ast
import builtins
import pathlib
import unittest

PACKAGE = pathlib.Path(__file__).resolve().parent.parent / "pactloom"
FILES = sorted(path for path in PACKAGE.rglob("*") if path.is_file() and path.suffix != ".pyc")
TREES = {path: ast.parse(path.read_text(encoding="ascii")) for path in FILES}

MODULE_LEVEL = (ast.Expr, ast.ImportFrom, ast.FunctionDef, ast.ClassDef, ast.Assign)
BARRED = (
    ast.Import, ast.Global, ast.AsyncFunctionDef, ast.AsyncFor, ast.AsyncWith, ast.Await, ast.Yield, ast.YieldFrom,
    ast.Try, ast.With, ast.Set, ast.Div, ast.MatMult, ast.GeneratorExp,
)
BUILTINS = """len range enumerate zip min max sum abs sorted reversed int str bool list tuple dict set isinstance ord repr
any all divmod ValueError KeyError""".split()
METHODS = """append clear copy count endswith extend find get index insert isalnum isalpha isdigit islower isspace
isupper items join keys ljust lower lstrip partition pop remove replace reverse rfind rjust rpartition rsplit rstrip
setdefault split splitlines startswith strip update upper values zfill bit_length add discard removeprefix
removesuffix""".split()
WORDS = """register mro elements open input law version_info with_traceback add_note attrgetter breakpoint builtins
compile copyright credits delattr dir eval exec exit gc globals help id importlib license locals methodcaller os quit
sys type vars typing typing_extensions enum Enum IntEnum StrEnum Flag IntFlag Generic Protocol ABC ABCMeta namedtuple
NamedTuple TypedDict TYPE_CHECKING abstractmethod dataclass overload contextmanager""".split()


def functions_of(tree):
    return [node for node in ast.walk(tree) if isinstance(node, ast.FunctionDef)]


def bound_names(tree):
    """Every name that is bound somewhere in a file."""
    names = set()
    for node in ast.walk(tree):
        if isinstance(node, (ast.FunctionDef, ast.ClassDef)):
            names.add(node.name)
        elif isinstance(node, ast.arg):
            names.add(node.arg)
        elif isinstance(node, ast.Name) and not isinstance(node.ctx, ast.Load):
            names.add(node.id)
        elif isinstance(node, ast.alias):
            names.add(node.asname or node.name)
    return names


OWN_NAMES = {name for tree in TREES.values() for node in ast.walk(tree) if isinstance(node, ast.ClassDef)
             for name in [method.name for method in functions_of(node)]}


class TestLanguage(unittest.TestCase):
    def test_files_and_characters(self):
        self.assertLessEqual(len(FILES), 100)
        self.assertTrue((PACKAGE / "__init__.py").is_file())
        for path in FILES:
            self.assertRegex(path.name, r"\A([a-z][a-z0-9_]*|__init__|__main__)\.py\Z")
            text = path.read_text(encoding="ascii")
            self.assertRegex(text, r"\A[ -~\n]*\Z", path)
            self.assertLessEqual(len(text.splitlines()), 399, path)
            for line in text.splitlines():
                self.assertLessEqual(len(line), 120, path)

    def test_functions_are_small(self):
        for path, tree in TREES.items():
            for function in functions_of(tree):
                self.assertLessEqual(function.end_lineno - function.lineno + 1, 40, (path, function.name))

    def test_what_stands_at_module_level(self):
        for path, tree in TREES.items():
            names = []
            for node in tree.body:
                self.assertIsInstance(node, MODULE_LEVEL, path)
                if isinstance(node, ast.Expr):
                    self.assertIsInstance(node.value, ast.Constant)
                if isinstance(node, ast.Assign):
                    ast.literal_eval(node.value)
                    names += [target.id for target in node.targets]
                if isinstance(node, (ast.FunctionDef, ast.ClassDef)):
                    names.append(node.name)
                if isinstance(node, ast.ImportFrom):
                    names += [alias.name for alias in node.names]
            self.assertEqual(len(names), len(set(names)), path)

    def test_imports_name_the_very_file_and_run_in_no_ring(self):
        needs = {}
        for path, tree in TREES.items():
            needs[path.stem] = []
            for node in ast.walk(tree):
                if isinstance(node, ast.ImportFrom):
                    self.assertEqual(node.level, 0)
                    package, stem = node.module.split(".")
                    self.assertEqual(package, "pactloom")
                    needs[path.stem].append(stem)
                    there = TREES[PACKAGE / (stem + ".py")].body
                    named = {getattr(other, "name", None) for other in there}
                    named |= {target.id for other in there if isinstance(other, ast.Assign) for target in other.targets}
                    for alias in node.names:
                        self.assertIsNone(alias.asname)
                        self.assertIn(alias.name, named, path)
        for stem in needs:
            reached = list(needs[stem])
            for other in reached:
                reached += [more for more in needs[other] if more not in reached]
            self.assertNotIn(stem, reached)

    def test_no_barred_statement_or_expression(self):
        for path, tree in TREES.items():
            for node in ast.walk(tree):
                self.assertNotIsInstance(node, BARRED, path)
                self.assertFalse(getattr(node, "decorator_list", []), path)
                if isinstance(node, ast.Constant):
                    self.assertNotIsInstance(node.value, (float, complex), path)
                    self.assertNotIn("%", str(node.value), path)

    def test_words_that_are_not_used(self):
        for path, tree in TREES.items():
            for node in ast.walk(tree):
                for name in [getattr(node, "id", ""), getattr(node, "attr", ""), getattr(node, "name", "") or ""]:
                    self.assertNotIn(name, WORDS, path)
                    if name.startswith("__"):
                        self.assertIn(name, ("__init__",), path)
            hidden = [name for name in bound_names(tree) if hasattr(builtins, name) and not name.startswith("__")]
            self.assertEqual(hidden, [], path)

    def test_only_the_builtins_of_the_list(self):
        for path, tree in TREES.items():
            bound = bound_names(tree)
            for node in ast.walk(tree):
                if isinstance(node, ast.Name) and node.id not in bound:
                    self.assertIn(node.id, BUILTINS, path)

    def test_only_the_methods_of_the_list(self):
        for path, tree in TREES.items():
            for node in ast.walk(tree):
                if isinstance(node, ast.Call) and isinstance(node.func, ast.Attribute):
                    self.assertIn(node.func.attr, set(METHODS) | OWN_NAMES, path)

    def test_no_inner_name_hides_a_class_or_an_import(self):
        for path, tree in TREES.items():
            outer = {alias.name for node in tree.body if isinstance(node, ast.ImportFrom) for alias in node.names}
            outer |= {node.name for node in tree.body if isinstance(node, ast.ClassDef)}
            for function in functions_of(tree):
                inner = bound_names(function) - {function.name}
                self.assertEqual(inner & outer, set(), (path, function.name))


if __name__ == "__main__":
    unittest.main()
