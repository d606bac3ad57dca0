"""Those rules of ../shared/LANGUAGE.md that can be read off the files of the package."""

import ast
import builtins
import pathlib
import re
import unittest

PACKAGE = pathlib.Path(__file__).resolve().parent.parent / "midstride"

BUILTINS = set("""len range enumerate zip min max sum abs sorted reversed int str bool bytes list tuple dict set
    frozenset isinstance ord repr any all divmod Exception ValueError TypeError KeyError IndexError LookupError
    ZeroDivisionError ArithmeticError OverflowError RuntimeError NotImplementedError AttributeError StopIteration
    NotImplemented""".split())

BARRED_WORDS = set("""type typing typing_extensions enum Enum IntEnum StrEnum Flag IntFlag Generic Protocol ABC
    ABCMeta namedtuple NamedTuple TypedDict TYPE_CHECKING abstractmethod""".split())

METHODS = set("""append clear copy count endswith extend find get index insert isalnum isalpha isdigit islower isspace
    isupper items join keys ljust lower lstrip partition pop remove replace reverse rfind rjust rpartition rsplit rstrip
    setdefault split splitlines startswith strip update upper values zfill bit_length title capitalize swapcase casefold
    center expandtabs removeprefix removesuffix rindex isascii isdecimal isnumeric istitle isidentifier isprintable add
    discard sort""".split())

BARRED_NAMES = set("""register mro elements open input version_info with_traceback add_note attrgetter breakpoint
    builtins compile copyright credits delattr dir eval exec exit gc getattr globals hasattr help id importlib license
    locals methodcaller os quit setattr super type vars sys __name__ format format_map""".split())

# What may be iterated on the spot alone, and the builtins that do so.
FLEETING = {"zip", "enumerate", "reversed", "range"}
FLEETING_METHODS = {"items", "keys", "values"}
ITERATING = {"list", "tuple", "dict", "sorted", "sum", "any", "all", "enumerate", "zip", "min", "max"}

BARRED_NODES = (ast.Import, ast.Global, ast.AsyncFunctionDef, ast.AsyncFor, ast.AsyncWith, ast.Await, ast.Div)


def files():
    """The files of the package, with their texts."""
    return [(path, path.read_bytes().decode("ascii")) for path in sorted(PACKAGE.glob("*.py"))]


def nodes():
    """Each file's name beside each node of its tree."""
    return [(path.name, node) for path, text in files() for node in ast.walk(ast.parse(text))]


def bound_names(node):
    """The names that a node binds."""
    if isinstance(node, ast.Name) and not isinstance(node.ctx, ast.Load):
        return [node.id]
    if isinstance(node, ast.arg):
        return [node.arg]
    if isinstance(node, (ast.FunctionDef, ast.ClassDef)):
        return [node.name]
    if isinstance(node, ast.alias):
        return [node.asname or node.name]
    if isinstance(node, ast.Attribute):
        return [node.attr]
    return []


def defined_names(text):
    """The names that a file binds at module level, but for its imports."""
    names = []
    for row in ast.parse(text).body:
        if isinstance(row, (ast.FunctionDef, ast.ClassDef)):
            names.append(row.name)
        if isinstance(row, ast.Assign):
            names += [target.id for target in row.targets]
    return names


def imported_names(text):
    """Pairs of a module and a name that a file imports from it."""
    return [(row.module, alias.name) for row in ast.parse(text).body if isinstance(row, ast.ImportFrom)
            for alias in row.names]


def iterated_on_the_spot(trees):
    """Those of the nodes over which a loop, a comprehension, a builtin or a join iterates where they stand."""
    spots = []
    for _, node in trees:
        if isinstance(node, (ast.For, ast.comprehension)):
            spots.append(node.iter)
        if isinstance(node, ast.Call) and isinstance(node.func, ast.Name) and node.func.id in ITERATING:
            spots += node.args
        if isinstance(node, ast.Call) and isinstance(node.func, ast.Attribute) and node.func.attr == "join":
            spots += node.args
    return spots


def own_methods():
    """The names of all methods of all classes."""
    return {row.name for _, node in nodes() if isinstance(node, ast.ClassDef)
            for row in node.body if isinstance(row, ast.FunctionDef)}


class Language(unittest.TestCase):

    def test_the_folder_holds_plain_files_alone(self):
        for path in PACKAGE.iterdir():
            if path.name != "__pycache__":
                self.assertRegex(path.name, r"^([a-z][a-z0-9_]*|__init__)\.py$")

    def test_sizes(self):
        for path, text in files():
            rows = text.split("\n")
            self.assertLessEqual(len(rows), 400, path)
            for row in rows:
                self.assertLessEqual(len(row), 120, path)
        for name, node in nodes():
            if isinstance(node, ast.FunctionDef):
                self.assertLessEqual(node.end_lineno - node.lineno + 1, 40, (name, node.name))

    def test_signs(self):
        for path, text in files():
            self.assertRegex(text, r"\A[ -~\n]*\Z", path)

    def test_barred_words(self):
        for path, text in files():
            self.assertEqual(BARRED_WORDS & set(re.findall(r"\w+", text)), set(), path)
            self.assertIsNone(re.search("dataclass|overload|contextmanager", text), path)

    def test_imports(self):
        for name, node in nodes():
            if isinstance(node, ast.ImportFrom):
                self.assertRegex(node.module, r"^midstride\.[a-z]", name)
                self.assertEqual(node.level, 0, name)
                self.assertNotIn("*", [alias.name for alias in node.names], name)

    def test_imports_name_the_file_that_defines_the_name(self):
        defined = {f"midstride.{path.stem}": defined_names(text) for path, text in files()}
        for path, text in files():
            for module, name in imported_names(text):
                self.assertIn(name, defined[module], path)

    def test_no_files_import_one_another(self):
        ahead = {f"midstride.{path.stem}": {module for module, _ in imported_names(text)} for path, text in files()}
        while ahead:
            free = [module for module in ahead if not ahead[module] & set(ahead)]
            self.assertTrue(free, f"these import one another: {sorted(ahead)}")
            ahead = {module: ahead[module] for module in ahead if module not in free}

    def test_module_level_names_are_bound_once(self):
        for path, text in files():
            names = defined_names(text) + [name for _, name in imported_names(text)]
            self.assertEqual(sorted(names), sorted(set(names)), path)

    def test_local_names_are_none_of_imports_or_classes(self):
        for path, text in files():
            tree = ast.parse(text)
            kept = {name for _, name in imported_names(text)}
            kept |= {row.name for row in tree.body if isinstance(row, ast.ClassDef)}
            for node in ast.walk(tree):
                if isinstance(node, (ast.Name, ast.arg)):
                    self.assertFalse(kept & set(bound_names(node)), path)

    def test_called_methods(self):
        own = own_methods()
        for name, node in nodes():
            if isinstance(node, ast.Call) and isinstance(node.func, ast.Attribute):
                self.assertIn(node.func.attr, own | METHODS, name)

    def test_no_name_is_both_a_method_and_an_attribute(self):
        stored = {node.attr for _, node in nodes() if isinstance(node, ast.Attribute)
                  and isinstance(node.ctx, ast.Store)}
        self.assertEqual(own_methods() & stored, set())
        plain = {name for name in own_methods() | stored if not name.startswith("__")}
        for kind in (str, int, list, dict, set, bytes):
            self.assertEqual(plain & set(dir(kind)), set())

    def test_barred_names(self):
        for name, node in nodes():
            self.assertFalse(BARRED_NAMES & set(bound_names(node)), name)

    def test_statements_and_values(self):
        for name, node in nodes():
            self.assertNotIsInstance(node, BARRED_NODES, name)
            if isinstance(node, ast.Constant):
                self.assertNotIsInstance(node.value, (float, complex), name)
            if isinstance(node, ast.Constant) and isinstance(node.value, str):
                self.assertNotIn("%", node.value, name)
            if isinstance(node, ast.ClassDef):
                self.assertEqual(node.decorator_list, [], name)

    def test_builtins(self):
        for name, node in nodes():
            if isinstance(node, ast.Name) and hasattr(builtins, node.id):
                self.assertIn(node.id, BUILTINS, name)

    def test_names(self):
        for name, node in nodes():
            for bound in bound_names(node):
                method = isinstance(node, ast.FunctionDef) and re.match(r"^__[a-z]+__$", bound)
                self.assertTrue(method or re.match(r"^[A-Za-z]\w*$", bound), (name, bound))
                if not isinstance(node, (ast.Attribute, ast.FunctionDef)):
                    self.assertFalse(hasattr(builtins, bound), (name, bound))

    def test_is_stands_beside_none_true_and_false_alone(self):
        for name, node in nodes():
            if isinstance(node, ast.Compare):
                for sign, right in zip(node.ops, node.comparators):
                    if isinstance(sign, (ast.Is, ast.IsNot)):
                        self.assertIn(getattr(right, "value", 0), (None, True, False), name)

    def test_what_is_iterated_on_the_spot_alone(self):
        trees = nodes()
        spots = iterated_on_the_spot(trees)
        for name, node in trees:
            fleeting = isinstance(node, ast.GeneratorExp)
            if isinstance(node, ast.Call) and isinstance(node.func, ast.Name):
                fleeting = node.func.id in FLEETING
            if isinstance(node, ast.Call) and isinstance(node.func, ast.Attribute):
                fleeting = node.func.attr in FLEETING_METHODS
            if fleeting:
                self.assertIn(node, spots, (name, node.lineno))

    def test_module_level(self):
        for path, text in files():
            for at, row in enumerate(ast.parse(text).body):
                docstring = at == 0 and isinstance(row, ast.Expr)
                kinds = (ast.ImportFrom, ast.FunctionDef, ast.ClassDef, ast.Assign)
                self.assertTrue(docstring or isinstance(row, kinds), (path, row.lineno))


if __name__ == "__main__":
    unittest.main()
