"""The package keeps to its small part of Python: sizes, signs, imports, names and calls."""

import ast
import builtins
import unittest
from pathlib import Path

TOP = Path(__file__).resolve().parent.parent
PACKAGE = TOP / "sumsalone"
FILES = sorted(PACKAGE.rglob("*.py"))
TREES = {path: ast.parse(path.read_text()) for path in FILES}

ERRORS = {"Exception", "ValueError", "TypeError", "KeyError", "IndexError", "LookupError", "ZeroDivisionError",
          "ArithmeticError", "OverflowError", "RuntimeError", "NotImplementedError", "AttributeError"}
CALLED = {"len", "range", "enumerate", "zip", "min", "max", "sum", "abs", "sorted", "reversed", "int", "str", "bool",
          "list", "tuple", "dict", "set", "isinstance", "ord", "repr", "any", "all", "divmod"}
METHODS = set("""append clear copy count endswith extend find get index insert isalnum isalpha isdigit islower isspace
    isupper items join keys ljust lower lstrip partition pop remove replace reverse rfind rjust rpartition rsplit rstrip
    setdefault split splitlines startswith strip update upper values zfill bit_length add discard""".split())
SPECIAL = {"__init__", "__eq__", "__repr__", "__str__", "__len__", "__contains__", "__getitem__", "__iter__", "__call__",
           "__enter__", "__exit__"}
NEVER = {"register", "mro", "elements", "open", "input", "law", "version_info", "with_traceback", "add_note"}
WORDS = {"type", "typing", "typing_extensions", "enum", "Enum", "IntEnum", "StrEnum", "Flag", "IntFlag", "Generic",
         "Protocol", "ABC", "ABCMeta", "namedtuple", "NamedTuple", "TypedDict", "TYPE_CHECKING", "abstractmethod"}
# A doctest leaves `_` among the builtins.
BUILTINS = set(dir(builtins)) - {"_"}
FORBIDDEN = (ast.GeneratorExp, ast.Global, ast.AsyncFunctionDef, ast.Await, ast.Div, ast.MatMult, ast.YieldFrom,
             ast.AnnAssign, ast.TypeAlias if hasattr(ast, "TypeAlias") else ast.Global)


def module_name(path):
    parts = list(path.relative_to(TOP).with_suffix("").parts)
    return ".".join(parts[:-1] if parts[-1] == "__init__" else parts)


def nodes(kinds):
    for path, tree in TREES.items():
        for node in ast.walk(tree):
            if isinstance(node, kinds):
                yield path, node


def bound_names(function):
    """The parameters and local variables of a function."""
    taken = function.args
    names = [part.arg for part in taken.posonlyargs + taken.args + taken.kwonlyargs]
    names += [part.arg for part in (taken.vararg, taken.kwarg) if part is not None]
    return names + [node.id for node in ast.walk(function) if isinstance(node, ast.Name)
                    and isinstance(node.ctx, ast.Store)]


class Files(unittest.TestCase):
    def test_only_plain_files(self):
        for path in PACKAGE.rglob("*"):
            if "__pycache__" in path.parts:
                continue
            self.assertTrue(path.is_dir() or path.suffix == ".py", path)
            self.assertRegex(path.stem, r"^([a-z][a-z0-9_]*|__init__|__main__)$")
            self.assertTrue(path.is_file() or (path / "__init__.py").is_file(), path)
            self.assertNotIn(path.stem if path.is_file() else "", [x.name for x in path.parent.iterdir() if x.is_dir()])

    def test_sizes_and_signs(self):
        for path in FILES:
            text = path.read_text()
            lines = text.split("\n")
            self.assertLessEqual(len(lines), 400, path)
            self.assertTrue(all(sign == "\n" or " " <= sign <= "~" for sign in text), path)
            self.assertLessEqual(max(len(line) for line in lines), 120, path)
        for path, node in nodes(ast.FunctionDef):
            self.assertLessEqual(node.end_lineno - node.lineno + 1, 40, (path, node.name))

    def test_module_level(self):
        for path, tree in TREES.items():
            for node in tree.body:
                self.assertIsInstance(node, (ast.Expr, ast.ImportFrom, ast.FunctionDef, ast.ClassDef, ast.Assign))
                if isinstance(node, ast.Expr):
                    self.assertIs(node, tree.body[0])

    def test_each_file_and_function_is_told_of(self):
        for path, tree in TREES.items():
            self.assertIsNotNone(ast.get_docstring(tree), path)
        for path, node in nodes((ast.FunctionDef, ast.ClassDef)):
            if not node.name.startswith("__"):
                self.assertIsNotNone(ast.get_docstring(node), (path, node.name))


class Imports(unittest.TestCase):
    def test_from_the_file_that_defines_the_name(self):
        defined = {}
        for path, tree in TREES.items():
            names = [node.name for node in tree.body if isinstance(node, (ast.FunctionDef, ast.ClassDef))]
            names += [part.id for node in tree.body if isinstance(node, ast.Assign) for part in node.targets]
            self.assertEqual(len(names), len(set(names)), path)
            defined[module_name(path)] = names
        for path, node in nodes((ast.Import, ast.ImportFrom)):
            self.assertIsInstance(node, ast.ImportFrom, path)
            self.assertEqual(node.level, 0, path)
            for part in node.names:
                self.assertIsNone(part.asname, path)
                self.assertIn(part.name, defined[node.module], path)

    def test_imports_are_used_and_never_in_a_ring(self):
        needs = {module_name(path): set() for path in FILES}
        for path, node in nodes(ast.ImportFrom):
            needs[module_name(path)].add(node.module)
            used = {part.id for part in ast.walk(TREES[path]) if isinstance(part, ast.Name)}
            self.assertTrue({part.name for part in node.names} <= used, (path, node.lineno))
        while needs:
            free = [name for name, wanted in needs.items() if not wanted & set(needs)]
            self.assertTrue(free, "files import from each other")
            for name in free:
                del needs[name]


class Code(unittest.TestCase):
    def test_forbidden_parts(self):
        for path, node in nodes(FORBIDDEN):
            self.fail((path, getattr(node, "lineno", None), type(node).__name__))

    def test_names(self):
        known = BUILTINS
        for path, node in nodes(ast.FunctionDef):
            barred = known | {part.name for one in TREES[path].body if isinstance(one, ast.ImportFrom)
                              for part in one.names}
            barred |= {one.name for one in TREES[path].body if isinstance(one, ast.ClassDef)}
            for name in bound_names(node):
                self.assertNotIn(name, barred, (path, node.name))
            self.assertNotIn(node.name, known, path)
            if node.name.startswith("__"):
                self.assertIn(node.name, SPECIAL, path)
        for path, node in nodes((ast.Name, ast.Attribute, ast.FunctionDef, ast.ClassDef)):
            name = getattr(node, "id", None) or getattr(node, "attr", None) or getattr(node, "name", None)
            self.assertNotIn(name, NEVER, path)
            self.assertTrue(name in SPECIAL or not name.startswith("__"), (path, name))

    def test_builtins(self):
        for path, node in nodes(ast.Name):
            if node.id in BUILTINS:
                self.assertIn(node.id, CALLED | ERRORS | {"property", "classmethod", "staticmethod"}, path)

    def test_methods(self):
        own = {node.name for _, node in nodes(ast.FunctionDef)}
        for path, node in nodes(ast.Call):
            if isinstance(node.func, ast.Attribute):
                self.assertIn(node.func.attr, METHODS | own, (path, node.lineno))

    def test_decorators(self):
        for path, node in nodes((ast.FunctionDef, ast.ClassDef)):
            for part in node.decorator_list:
                self.assertIsInstance(node, ast.FunctionDef)
                self.assertIn(part.id, ("property", "classmethod", "staticmethod"), path)

    def test_is(self):
        for path, node in nodes(ast.Compare):
            for sign, part in zip(node.ops, node.comparators):
                if isinstance(sign, (ast.Is, ast.IsNot)):
                    self.assertIsInstance(part, ast.Constant, (path, node.lineno))

    def test_stars_in_calls_stand_before_names(self):
        for path, node in nodes(ast.Call):
            for part in node.args:
                if isinstance(part, ast.Starred):
                    self.assertIsInstance(part.value, (ast.Name, ast.Attribute), (path, node.lineno))

    def test_sets(self):
        for path, tree in TREES.items():
            inside = [id(part) for node in ast.walk(tree) if isinstance(node, ast.Call)
                      and isinstance(node.func, ast.Name) and node.func.id in ("sorted", "len") for part in node.args]
            for node in ast.walk(tree):
                if isinstance(node, ast.Call) and isinstance(node.func, ast.Name) and node.func.id == "set":
                    self.assertIn(id(node), inside, (path, node.lineno))
        self.assertEqual([], [path for path, _ in nodes((ast.Set, ast.SetComp))])

    def test_words_and_strings(self):
        for path, node in nodes(ast.Constant):
            if isinstance(node.value, str):
                self.assertNotIn("%", node.value, (path, node.lineno))
        for path, node in nodes((ast.Name, ast.Attribute, ast.arg, ast.keyword)):
            name = getattr(node, "id", None) or getattr(node, "attr", None) or getattr(node, "arg", None)
            self.assertNotIn(name, WORDS, path)

    def test_keywords_of_builtins(self):
        for path, node in nodes(ast.Call):
            name = node.func.id if isinstance(node.func, ast.Name) else ""
            if name in CALLED:
                allowed = {"sorted": ("key", "reverse"), "min": ("key", "default"), "max": ("key", "default"),
                           "sum": ("start",), "enumerate": ("start",), "zip": ("strict",)}.get(name, ())
                self.assertTrue({part.arg for part in node.keywords} <= set(allowed), (path, node.lineno))

    def test_iterated_at_once(self):
        takers = ("list", "tuple", "dict", "sorted", "sum", "any", "all", "enumerate", "zip", "min", "max", "reversed")
        for path, tree in TREES.items():
            spots = [id(node.iter) for node in ast.walk(tree) if isinstance(node, (ast.For, ast.comprehension))]
            for node in ast.walk(tree):
                if isinstance(node, ast.Call) and isinstance(node.func, ast.Name) and node.func.id in takers:
                    spots.extend(id(part) for part in node.args)
            for node in ast.walk(tree):
                if not isinstance(node, ast.Call):
                    continue
                name = getattr(node.func, "id", None) or "." + getattr(node.func, "attr", "")
                if name in ("range", "zip", "enumerate", "reversed", ".items", ".keys", ".values"):
                    self.assertIn(id(node), spots, (path, node.lineno))

    def test_generators(self):
        made = [(path, node) for path, node in nodes(ast.FunctionDef)
                if any(isinstance(part, ast.Yield) for part in ast.walk(node))]
        names = [node.name for _, node in nodes(ast.FunctionDef)]
        for path, node in made:
            self.assertEqual(names.count(node.name), 1, (path, node.name))
            self.assertNotIn(node.name, METHODS, path)

    def test_generators_are_not_called(self):
        """None of them is needed within the package; so nothing has to be said about how they are iterated."""
        names = {node.name for _, node in nodes(ast.FunctionDef) if any(isinstance(x, ast.Yield) for x in ast.walk(node))}
        for path, node in nodes(ast.Call):
            called = getattr(node.func, "id", None) or getattr(node.func, "attr", None)
            self.assertNotIn(called, names, (path, node.lineno))

    def test_what_is_done_behind_blocks(self):
        """In `finally` and `__exit__` names and attributes are assigned names and attributes, and nothing else is done."""
        bodies = [(path, node.finalbody) for path, node in nodes(ast.Try)]
        bodies += [(path, node.body) for path, node in nodes(ast.FunctionDef) if node.name == "__exit__"]
        self.assertEqual(len(bodies), 2)
        for path, body in bodies:
            for statement in body:
                self.assertIsInstance(statement, ast.Assign, path)
                for part in ast.walk(statement):
                    self.assertIsInstance(part, (ast.Assign, ast.Name, ast.Attribute, ast.Load, ast.Store), path)
        for path, node in nodes((ast.ExceptHandler, ast.With, ast.Match, ast.Nonlocal)):
            self.fail((path, node.lineno))

    def test_names_of_methods_and_properties(self):
        found = [node for _, tree in nodes(ast.ClassDef) for node in tree.body if isinstance(node, ast.FunctionDef)]
        properties = {node.name for node in found if "property" in [part.id for part in node.decorator_list]}
        methods = {node.name for node in found if "property" not in [part.id for part in node.decorator_list]}
        self.assertFalse(properties & methods)
        of_values = {name for kind in (str, int, list, dict, set, bytes, tuple) for name in dir(kind)}
        for name in methods | properties:
            self.assertTrue(name.startswith("__") or name not in of_values or name == "join", name)

    def test_attributes_are_no_names_of_values(self):
        of_values = {name for kind in (str, int, list, dict, set, bytes, tuple) for name in dir(kind)}
        for path, node in nodes(ast.Attribute):
            if isinstance(node.ctx, ast.Store):
                self.assertNotIn(node.attr, of_values, (path, node.lineno))

    def test_values_at_module_level(self):
        plain = (ast.Constant, ast.Tuple, ast.Dict, ast.Load, ast.Store, ast.Assign, ast.Name)
        for path, tree in TREES.items():
            functions = []
            for node in tree.body:
                if isinstance(node, ast.FunctionDef):
                    functions.append(node.name)
                if isinstance(node, ast.Assign):
                    for part in ast.walk(node):
                        self.assertIsInstance(part, plain, (path, node.lineno))
                        if isinstance(part, ast.Name) and isinstance(part.ctx, ast.Load):
                            self.assertIn(part.id, functions, (path, node.lineno))

    def test_words_that_do_not_stand_in_a_package_with_items(self):
        for path in FILES:
            for word in ("(type)", "Meta", "metaclass="):
                self.assertNotIn(word, path.read_text(), path)

    def test_recursion_and_nesting(self):
        for path, node in nodes(ast.FunctionDef):
            inside = [part for part in ast.walk(node) if part is not node]
            self.assertFalse(any(isinstance(part, (ast.FunctionDef, ast.Lambda)) for part in inside), (path, node.name))
            calls = [part.func.id for part in inside if isinstance(part, ast.Call) and isinstance(part.func, ast.Name)]
            self.assertNotIn(node.name, calls, path)
