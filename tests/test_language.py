"""Tests that the package keeps to LANGUAGE.md, as far as a short look over its files can tell.

This is stricter than the rules where the package does not need what they allow.
"""

import ast
import builtins
import unittest
import warnings
from pathlib import Path

FOLDER = Path(__file__).resolve().parent.parent / "sureplans"
FILES = sorted(FOLDER.glob("*.py"))

LIBRARY = {
    "heapq": ["heappush", "heappop", "heapify", "heapreplace", "heappushpop"],
    "math": ["gcd", "lcm", "isqrt", "comb", "perm", "factorial"],
    "itertools": ["product", "combinations", "permutations", "chain", "accumulate", "pairwise", "islice",
                  "zip_longest"],
    "collections": ["deque", "defaultdict"],
}
BUILTINS = """
    len range enumerate zip min max sum abs sorted reversed int str bool list tuple dict set isinstance ord repr
    any all divmod Exception ValueError TypeError KeyError IndexError LookupError ZeroDivisionError iter next map
""".split()
METHODS = """
    append clear copy count endswith extend find get index insert isalnum isalpha isdigit islower isspace isupper
    items join keys ljust lower lstrip partition pop remove replace reverse rfind rjust rpartition rsplit rstrip
    setdefault split splitlines startswith strip update upper values zfill bit_length isascii isdecimal
    removeprefix removesuffix add discard sort popleft appendleft
""".split()
STATEMENTS = (
    ast.FunctionDef, ast.ClassDef, ast.Return, ast.Delete, ast.Assign, ast.AugAssign, ast.For, ast.While, ast.If,
    ast.Raise, ast.Try, ast.Assert, ast.ImportFrom, ast.Expr, ast.Pass, ast.Break, ast.Continue, ast.Nonlocal,
)
NOT_USED = (ast.Div, ast.MatMult, ast.Pow, ast.Invert, ast.Await, ast.Yield, ast.YieldFrom)
BARRED_NAMES = """
    register mro elements open input law version_info with_traceback add_note attrgetter breakpoint builtins compile
    copyright credits delattr dir eval exec exit gc getattr globals hasattr help id importlib license locals
    methodcaller os quit setattr super type vars sys frozenset chr pow print hash filter format object property
""".split()
BARRED_WORDS = """
    type typing typing_extensions enum Enum IntEnum StrEnum Flag IntFlag Generic Protocol ABC ABCMeta namedtuple
    NamedTuple TypedDict TYPE_CHECKING abstractmethod dataclass overload contextmanager
""".split()


def nodes_of(path, kinds):
    return [node for node in ast.walk(ast.parse(path.read_text())) if isinstance(node, kinds)]


def names_bound(path):
    """All names that the file gives a meaning: functions, classes, parameters, variables, imports."""
    found = [node.name for node in nodes_of(path, (ast.FunctionDef, ast.ClassDef))]
    found += [node.arg for node in nodes_of(path, ast.arg)]
    found += [node.id for node in nodes_of(path, ast.Name) if not isinstance(node.ctx, ast.Load)]
    found += [each.name for node in nodes_of(path, ast.ImportFrom) for each in node.names]
    return found


def names_at_module_level(path):
    found = []
    for row in ast.parse(path.read_text()).body:
        if isinstance(row, (ast.FunctionDef, ast.ClassDef)):
            found.append(row.name)
        elif isinstance(row, ast.ImportFrom):
            found += [each.name for each in row.names]
        elif isinstance(row, ast.Assign):
            found += [target.id for target in row.targets]
    return found


def names_in_functions(path):
    """Parameters and local variables."""
    found = []
    for function in nodes_of(path, ast.FunctionDef):
        found += [node.arg for node in ast.walk(function) if isinstance(node, ast.arg)]
        found += [node.id for node in ast.walk(function)
                  if isinstance(node, ast.Name) and isinstance(node.ctx, ast.Store)]
    return found


def docstrings_of(path):
    """The nodes of the docstrings, which some rules on strings leave alone."""
    owners = nodes_of(path, (ast.Module, ast.ClassDef, ast.FunctionDef))
    return [owner.body[0].value for owner in owners if owner.body and ast.get_docstring(owner) is not None]


class TestLanguage(unittest.TestCase):

    def each_file(self):
        for path in FILES:
            with self.subTest(path.name):
                yield path

    def test_the_folder_contains_plain_files_only(self):
        names = [path.name for path in FOLDER.iterdir() if path.name != "__pycache__"]
        self.assertIn("__init__.py", names)
        for name in names:
            self.assertRegex(name, "^(__init__|[a-z][a-z0-9_]*)[.]py$")

    def test_sizes_and_characters(self):
        for path in self.each_file():
            text = path.read_text()
            self.assertTrue(all(sign == "\n" or " " <= sign <= "~" for sign in text))
            self.assertLessEqual(len(text.splitlines()), 399)
            self.assertLessEqual(max(len(row) for row in text.splitlines()), 120)
            for function in nodes_of(path, ast.FunctionDef):
                self.assertLessEqual(function.end_lineno - function.lineno + 1, 40, function.name)

    def test_python_gives_no_warning(self):
        for path in self.each_file():
            with warnings.catch_warnings():
                warnings.simplefilter("error")
                compile(path.read_text(), path.name, "exec")

    def test_module_level_holds_definitions_and_plain_values(self):
        for path in self.each_file():
            body = ast.parse(path.read_text()).body
            self.assertIsInstance(body[0].value, ast.Constant)
            for row in body[1:]:
                self.assertIsInstance(row, (ast.ImportFrom, ast.FunctionDef, ast.ClassDef, ast.Assign))
                if isinstance(row, ast.Assign):
                    self.assertIsInstance(row.targets[0], ast.Name)
                    self.assertEqual(len(row.targets), 1)
                    self.check_plain(row.value, [each.name for each in body if isinstance(each, ast.FunctionDef)
                                                 and each.lineno < row.lineno])

    def check_plain(self, value, functions):
        """Plain values, and dicts of functions defined above."""
        if isinstance(value, ast.Dict) and isinstance(value.values[0], ast.Name):
            for each in value.values:
                self.assertIn(each.id, functions)
        else:
            ast.literal_eval(value)

    def test_functions_of_tables_are_called_by_a_name(self):
        for path in self.each_file():
            for node in nodes_of(path, ast.Call):
                self.assertIsInstance(node.func, (ast.Name, ast.Attribute), node.lineno)

    def test_each_name_is_bound_once_and_shadows_nothing(self):
        for path in self.each_file():
            at_top = names_at_module_level(path)
            self.assertEqual(len(at_top), len(set(at_top)))
            self.assertEqual(sorted(set(at_top) & set(names_in_functions(path))), [])
            self.assertEqual([name for name in names_bound(path)
                              if hasattr(builtins, name) and name != "__init__"], [])

    def test_imports_name_the_very_file_that_defines(self):
        for path in self.each_file():
            for node in nodes_of(path, ast.ImportFrom):
                self.assertEqual(node.level, 0)
                self.assertTrue(all(each.asname is None for each in node.names))
                names = [each.name for each in node.names]
                if node.module in LIBRARY:
                    self.assertTrue(set(names) <= set(LIBRARY[node.module]))
                    continue
                package, file = node.module.split(".")
                self.assertEqual(package, "sureplans")
                other = FOLDER / f"{file}.py"
                defined = [row for row in ast.parse(other.read_text()).body if not isinstance(row, ast.ImportFrom)]
                found = [row.name for row in defined if hasattr(row, "name")]
                found += [row.targets[0].id for row in defined if isinstance(row, ast.Assign)]
                self.assertTrue(set(names) <= set(found), names)

    def test_no_files_import_from_each_other(self):
        ahead = {path.stem: [node.module.split(".")[1] for node in nodes_of(path, ast.ImportFrom)
                             if node.module.startswith("sureplans.")] for path in FILES}
        while ahead:
            free = [name for name in ahead if not set(ahead[name]) & set(ahead)]
            self.assertTrue(free, f"files import from each other: {sorted(ahead)}")
            for name in free:
                del ahead[name]

    def test_statements_and_expressions(self):
        for path in self.each_file():
            for node in nodes_of(path, ast.stmt):
                self.assertIsInstance(node, STATEMENTS, node.lineno)
            self.assertEqual(nodes_of(path, NOT_USED), [])
            for node in nodes_of(path, ast.Compare):
                if isinstance(node.ops[0], (ast.Is, ast.IsNot)):
                    self.assertIsInstance(node.comparators[0], ast.Constant)
            for node in nodes_of(path, ast.FormattedValue):
                self.assertIsNone(node.format_spec)
            for node in nodes_of(path, (ast.FunctionDef, ast.ClassDef)):
                self.assertEqual(node.decorator_list, [])
            for node in nodes_of(path, ast.Constant):
                self.assertNotIsInstance(node.value, (float, complex, bytes))

    def test_builtins_and_methods(self):
        own = [name for path in FILES for name in names_bound(path)]
        attributes = [node.attr for path in FILES for node in nodes_of(path, ast.Attribute)
                      if isinstance(node.ctx, ast.Store)]
        for path in self.each_file():
            bound = set(names_bound(path))
            for node in nodes_of(path, ast.Name):
                self.assertTrue(node.id in bound or node.id in BUILTINS, node.id)
            for node in nodes_of(path, ast.Attribute):
                self.assertTrue(node.attr in METHODS or node.attr in own or node.attr in attributes, node.attr)

    def test_names_and_words_that_are_not_used(self):
        for path in self.each_file():
            for name in names_bound(path):
                self.assertNotIn(name, BARRED_NAMES)
                self.assertFalse(name.startswith(("__", "_wall", "_pe_", "_dcw_", "_enum_", "_cm_"))
                                 and name != "__init__", name)
            told = docstrings_of(path)
            strings = [node.value for node in nodes_of(path, ast.Constant)
                       if isinstance(node.value, str) and node not in told]
            for word in BARRED_WORDS:
                self.assertNotIn(word, names_bound(path))
                self.assertFalse(any(word in text.split() for text in strings), word)

    def test_strings(self):
        for path in self.each_file():
            for node in nodes_of(path, ast.Constant):
                if isinstance(node.value, str):
                    self.assertNotIn("%", node.value)
                    self.assertFalse(node.value.endswith(("._", ".__")))

    def test_errors_are_made_on_the_spot_and_caught_by_name(self):
        for path in self.each_file():
            for node in nodes_of(path, ast.Raise):
                self.assertTrue(node.exc is None or isinstance(node.exc, ast.Call))
            for node in nodes_of(path, ast.ExceptHandler):
                self.assertIsNotNone(node.type)

    def test_sets_are_not_iterated(self):
        for path in self.each_file():
            loops = [node.iter for node in nodes_of(path, (ast.For, ast.comprehension))]
            for node in loops:
                self.assertNotIsInstance(node, (ast.Set, ast.SetComp))
                made = isinstance(node, ast.Call) and isinstance(node.func, ast.Name) and node.func.id == "set"
                self.assertFalse(made)


if __name__ == "__main__":
    unittest.main()
