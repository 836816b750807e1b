"""The files of the package against those rules of LANGUAGE.md that are plain to check."""

import ast
import builtins
import pathlib
import re
import unittest

FOLDER = pathlib.Path(__file__).resolve().parent.parent / "copyarms"
SOURCES = {path.name: path.read_bytes().decode("ascii") for path in sorted(FOLDER.glob("*.py"))}
TREES = {name: ast.parse(source) for name, source in SOURCES.items()}

BUILTINS = set("""len range enumerate zip min max sum abs sorted reversed int str bool bytes list tuple dict set
    frozenset isinstance ord repr any all divmod Exception ValueError TypeError KeyError IndexError LookupError
    ZeroDivisionError ArithmeticError OverflowError RuntimeError NotImplementedError AttributeError StopIteration
    NotImplemented property staticmethod classmethod super iter next""".split())
SPECIAL = set("""__init__ __eq__ __repr__ __str__ __len__ __enter__ __exit__ __call__ __iter__ __lt__ __le__ __gt__
    __ge__ __ne__ __add__ __sub__ __mul__ __floordiv__ __mod__ __pow__ __and__ __or__ __xor__ __lshift__ __rshift__
    __neg__ __pos__ __invert__ __abs__ __bool__ __contains__ __getitem__ __setitem__""".split())
BARRED_WORDS = re.compile(
    r"\b(type|typing|typing_extensions|enum|Enum|IntEnum|StrEnum|Flag|IntFlag|Generic|Protocol|ABC|ABCMeta|namedtuple"
    r"|NamedTuple|TypedDict|TYPE_CHECKING|abstractmethod)\b|dataclass|overload|contextmanager")
BARRED_NAMES = set("register mro elements open input law version_info with_traceback add_note".split())
BARRED_NODES = (
    ast.Global, ast.AsyncFunctionDef, ast.AsyncFor, ast.AsyncWith, ast.Await, ast.Div, ast.MatMult, ast.Import)
LIST_TAKERS = ("sum", "min", "max", "sorted", "any", "all")


def nodes(kind):
    """All nodes of a kind, with the names of their files."""
    return [(name, node) for name, tree in TREES.items() for node in ast.walk(tree) if isinstance(node, kind)]


def bound_names(tree):
    """The names of variables, parameters, functions and classes of a file."""
    for node in ast.walk(tree):
        if isinstance(node, ast.Name) and not isinstance(node.ctx, ast.Load):
            yield node.id
        elif isinstance(node, ast.arg):
            yield node.arg
        elif isinstance(node, (ast.FunctionDef, ast.ClassDef)):
            yield node.name


def local_names(tree):
    """The names of the variables and parameters of all functions of a file."""
    for function in [node for node in ast.walk(tree) if isinstance(node, (ast.FunctionDef, ast.Lambda))]:
        for node in ast.walk(function):
            if isinstance(node, ast.arg):
                yield node.arg
            elif isinstance(node, ast.Name) and not isinstance(node.ctx, ast.Load):
                yield node.id


class Language(unittest.TestCase):
    def test_files(self):
        found = [path.name for path in FOLDER.iterdir() if path.name != "__pycache__"]
        self.assertEqual(sorted(found), sorted(SOURCES))
        for name in found:
            self.assertRegex(name, r"\A([a-z][a-z0-9_]*|__init__)\.py\Z")

    def test_sizes_and_characters(self):
        for name, source in SOURCES.items():
            lines = source.split("\n")
            self.assertLessEqual(len(lines), 400, name)
            self.assertLessEqual(max([len(line) for line in lines]), 120, name)
            self.assertRegex(source, r"\A[ -~\n]*\Z", name)
            self.assertIsNone(BARRED_WORDS.search(source), name)
        for name, function in nodes(ast.FunctionDef):
            self.assertLessEqual(function.end_lineno - function.lineno + 1, 40, (name, function.name))

    def test_imports(self):
        for name, node in nodes(ast.ImportFrom):
            self.assertEqual(node.level, 0, name)
            self.assertRegex(node.module, r"\Acopyarms\.[a-z]+\Z", name)
            defined = set(bound_names(TREES[node.module.removeprefix("copyarms.") + ".py"]))
            self.assertLessEqual({alias.name for alias in node.names}, defined, name)

    def test_names(self):
        for name, tree in TREES.items():
            for bound in bound_names(tree):
                self.assertNotIn(bound, BARRED_NAMES, name)
                if bound not in SPECIAL:
                    self.assertFalse(bound.startswith("_"), (name, bound))
                    self.assertFalse(hasattr(builtins, bound), (name, bound))
        for name, node in nodes(ast.Attribute):
            self.assertFalse(node.attr.startswith("_") and node.attr not in SPECIAL, (name, node.attr))
            self.assertNotIn(node.attr, BARRED_NAMES, name)

    def test_builtins(self):
        for name, node in nodes(ast.Name):
            if hasattr(builtins, node.id):
                self.assertIn(node.id, BUILTINS, name)

    def test_no_local_name_is_that_of_an_import_or_a_class_or_a_function(self):
        for name, tree in TREES.items():
            taken = {alias.name for node in ast.walk(tree) if isinstance(node, ast.ImportFrom) for alias in node.names}
            taken |= {node.name for node in tree.body if isinstance(node, (ast.ClassDef, ast.FunctionDef))}
            self.assertEqual(taken & set(local_names(tree)), set(), name)

    def test_no_name_is_a_method_and_an_attribute(self):
        attributes = {node.attr for _, node in nodes(ast.Attribute) if isinstance(node.ctx, ast.Store)}
        methods = {part.name for _, node in nodes(ast.ClassDef) for part in node.body
                   if isinstance(part, ast.FunctionDef)}
        self.assertEqual(attributes & methods, set())

    def test_no_property_is_called_or_starred(self):
        properties = {part.name for _, node in nodes(ast.ClassDef) for part in node.body
                      if isinstance(part, ast.FunctionDef) and part.decorator_list}
        for name, node in nodes((ast.Call, ast.Starred)):
            used = node.func if isinstance(node, ast.Call) else node.value
            self.assertFalse(isinstance(used, ast.Attribute) and used.attr in properties, (name, node.lineno))

    def test_stars_stand_before_names_and_attributes(self):
        for name, node in nodes(ast.Starred):
            self.assertIsInstance(node.value, (ast.Name, ast.Attribute), (name, node.lineno))

    def test_python_errors_are_not_caught_and_errors_are_created_on_the_spot(self):
        own = {node.name for name, node in nodes(ast.ClassDef) if name == "errors.py"}
        for name, node in nodes(ast.ExceptHandler):
            self.assertIn(ast.unparse(node.type), own, (name, node.lineno))
        for name, node in nodes(ast.Raise):
            if node.exc is not None:
                self.assertIn(ast.unparse(node.exc.func), own | {"TypeError"}, (name, node.lineno))

    def test_no_sort_and_no_set(self):
        for name, node in nodes((ast.Set, ast.SetComp, ast.Attribute, ast.Name)):
            self.assertFalse(isinstance(node, (ast.Set, ast.SetComp)), (name, node.lineno))
            self.assertNotEqual(getattr(node, "attr", ""), "sort", (name, node.lineno))
            self.assertNotIn(getattr(node, "id", ""), ("set", "frozenset"), (name, node.lineno))

    def test_no_two_files_import_from_each_other(self):
        waiting = {name: {node.module.removeprefix("copyarms.") + ".py" for node in ast.walk(tree)
                          if isinstance(node, ast.ImportFrom)} for name, tree in TREES.items()}
        while waiting:
            ready = [name for name, needed in waiting.items() if not needed & set(waiting)]
            self.assertNotEqual(ready, [], sorted(waiting))
            for name in ready:
                del waiting[name]

    def test_attributes_that_are_read_are_assigned_or_defined(self):
        known = {node.attr for _, node in nodes(ast.Attribute) if isinstance(node.ctx, ast.Store)}
        known |= {node.name for _, node in nodes(ast.FunctionDef)}
        for name, node in nodes(ast.Attribute):
            self.assertTrue(node.attr in known or any([hasattr(kind, node.attr) for kind in (str, list, dict)]),
                            (name, node.attr))

    def test_statements_and_values(self):
        self.assertEqual(nodes(BARRED_NODES), [])
        for name, node in nodes(ast.Constant):
            self.assertNotIsInstance(node.value, (float, complex), name)
            if isinstance(node.value, str):
                self.assertNotIn("%", node.value, name)
        for name, node in nodes(ast.Compare):
            for operator, right in zip(node.ops, node.comparators):
                if isinstance(operator, (ast.Is, ast.IsNot)):
                    self.assertIsInstance(right, ast.Constant, name)

    def test_lists_instead_of_generators(self):
        for name, node in nodes(ast.Call):
            if isinstance(node.func, ast.Name) and node.func.id in LIST_TAKERS:
                self.assertFalse([part for part in node.args if isinstance(part, ast.GeneratorExp)], name)

    def test_double_underscore_methods(self):
        for name, node in nodes(ast.FunctionDef):
            if node.name.startswith("__"):
                self.assertIn(node.name, SPECIAL, name)
