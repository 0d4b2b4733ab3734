"""Those rules of the program's part of Python that can be read off its files."""

import ast
import builtins
import pathlib
import re
import unittest

PACKAGE = pathlib.Path(__file__).resolve().parent.parent / "rotstacks"

BARRED_NODES = (
    ast.With, ast.AsyncWith, ast.Match, ast.Delete, ast.Global, ast.Nonlocal, ast.Assert, ast.Yield, ast.YieldFrom,
    ast.Await, ast.AsyncFor, ast.AsyncFunctionDef, ast.SetComp, ast.DictComp, ast.GeneratorExp, ast.NamedExpr,
    ast.Starred, ast.Div, ast.MatMult, ast.Import, ast.AnnAssign,
)
BUILTINS_ALLOWED = set(
    "len range enumerate zip min max sum abs sorted reversed int str bool list tuple dict set frozenset isinstance "
    "ord repr any all divmod ValueError KeyError IndexError LookupError ZeroDivisionError ArithmeticError "
    "OverflowError RuntimeError NotImplementedError StopIteration".split()
)
METHODS_ALLOWED = set(
    "append clear copy count endswith extend find get index insert isalnum isalpha isdigit islower isspace isupper "
    "items join keys ljust lower lstrip partition pop remove replace reverse rfind rjust rpartition rsplit rstrip "
    "setdefault split splitlines startswith strip update upper values zfill bit_length".split()
)
BARRED_WORDS = re.compile(
    r"\b(type|typing|typing_extensions|enum|Enum|IntEnum|StrEnum|Flag|IntFlag|Generic|Protocol|ABC|ABCMeta|namedtuple"
    r"|NamedTuple|TypedDict|TYPE_CHECKING|abstractmethod)\b|dataclass|overload|contextmanager"
)
BARRED_NAMES = set(
    "register mro elements open input version_info with_traceback add_note attrgetter breakpoint builtins compile "
    "copyright credits delattr dir eval exec exit gc getattr globals hasattr help id importlib license locals "
    "methodcaller os quit setattr super sys type vars format format_map chr".split()
)
KEYWORDS_ALLOWED = {
    "sorted": ("key", "reverse"), "min": ("key", "default"), "max": ("key", "default"), "sum": ("start",),
    "enumerate": ("start",), "zip": ("strict",),
}
WALKED_AT_ONCE = ("zip", "enumerate", "reversed", "range")
WALKERS = ("list", "tuple", "dict", "sorted", "sum", "any", "all", "enumerate", "zip", "min", "max")


def bound_names(tree):
    """Each name that the file gives a meaning to, wherever it does so."""
    for node in ast.walk(tree):
        if isinstance(node, (ast.FunctionDef, ast.ClassDef)):
            yield node.name
        elif isinstance(node, ast.arg):
            yield node.arg
        elif isinstance(node, ast.Name) and isinstance(node.ctx, ast.Store):
            yield node.id


class FormTest(unittest.TestCase):
    def setUp(self):
        self.texts = {path.name: path.read_bytes().decode("ascii") for path in sorted(PACKAGE.glob("*.py"))}
        self.trees = {name: ast.parse(text) for name, text in self.texts.items()}

    def nodes(self, *kinds):
        for name, tree in self.trees.items():
            for node in ast.walk(tree):
                if isinstance(node, kinds):
                    yield f"{name}:{getattr(node, 'lineno', '')}", node

    def test_files(self):
        for path in PACKAGE.iterdir():
            if path.name != "__pycache__":
                self.assertRegex(path.name, r"^([a-z][a-z0-9_]*|__init__)\.py$")

    def test_signs_and_sizes(self):
        for name, text in self.texts.items():
            self.assertRegex(text, r"\A[ -~\n]*\n\Z", name)
            self.assertLessEqual(len(text.splitlines()), 400, name)
            self.assertLessEqual(max(len(line) for line in text.splitlines()), 120, name)
            self.assertIsNone(BARRED_WORDS.search(text), name)

    def test_function_sizes(self):
        for place, node in self.nodes(ast.FunctionDef):
            self.assertLessEqual(node.end_lineno - node.lineno + 1, 40, place)

    def test_no_barred_node(self):
        for place, node in self.nodes(*BARRED_NODES):
            self.fail(f"{place}: {node!r}")

    def test_imports_are_by_name_from_a_file_of_the_package_that_defines_it(self):
        for place, node in self.nodes(ast.ImportFrom):
            self.assertEqual(node.level, 0, place)
            self.assertRegex(node.module, r"^rotstacks\.[a-z0-9_]+$", place)
            defined = list(bound_names(self.trees[node.module.split(".")[1] + ".py"]))
            for alias in node.names:
                self.assertIn(alias.name, defined, place)

    def test_the_package_itself_draws_from_no_file(self):
        self.assertEqual([kind.__class__ for kind in self.trees["__init__.py"].body], [ast.Expr])

    def test_no_two_files_draw_from_one_another(self):
        drawn = {name: [node.module.split(".")[1] + ".py" for node in tree.body if isinstance(node, ast.ImportFrom)]
                 for name, tree in self.trees.items()}
        while drawn:
            free = [name for name, sources in drawn.items() if not any(source in drawn for source in sources)]
            self.assertNotEqual(free, [], drawn)
            for name in free:
                del drawn[name]

    def test_top_of_each_file(self):
        for name, tree in self.trees.items():
            for node in tree.body:
                self.assertIsInstance(node, (ast.Expr, ast.ImportFrom, ast.FunctionDef, ast.ClassDef, ast.Assign), name)
                if isinstance(node, ast.Expr):
                    self.assertEqual(node.value.value, ast.get_docstring(tree, clean=False), name)

    def test_defs(self):
        for place, node in self.nodes(ast.FunctionDef, ast.ClassDef):
            self.assertEqual(node.decorator_list, [], place)
        for place, node in self.nodes(ast.arguments):
            self.assertEqual((node.vararg, node.kwarg, node.kwonlyargs, node.posonlyargs), (None, None, [], []), place)
        for place, node in self.nodes(ast.ClassDef):
            self.assertLessEqual(len(node.bases), 1, place)
            for part in node.body:
                self.assertIsInstance(part, (ast.FunctionDef, ast.Pass), place)

    def test_statements(self):
        for place, node in self.nodes(ast.For, ast.While):
            self.assertEqual(node.orelse, [], place)
        for place, node in self.nodes(ast.Try):
            self.assertEqual(node.finalbody, [], place)
        for place, node in self.nodes(ast.Assign):
            self.assertEqual(len(node.targets), 1, place)
        for place, node in self.nodes(ast.Constant):
            self.assertNotIsInstance(node.value, (float, complex, bytes), place)

    def test_names(self):
        for name, tree in self.trees.items():
            for bound in bound_names(tree):
                if bound != "__init__":
                    self.assertRegex(bound, r"^[A-Za-z][A-Za-z0-9_]*$", name)
                    self.assertFalse(hasattr(builtins, bound), f"{name}: {bound}")
        for place, node in self.nodes(ast.Name):
            if hasattr(builtins, node.id):
                self.assertIn(node.id, BUILTINS_ALLOWED, place)

    def test_methods(self):
        own = [node.name for place, node in self.nodes(ast.FunctionDef)]
        for place, node in self.nodes(ast.Call):
            if isinstance(node.func, ast.Attribute) and node.func.attr not in own:
                self.assertIn(node.func.attr, METHODS_ALLOWED, place)

    def test_methods_and_values_of_the_program_own_classes(self):
        methods = [part.name for place, node in self.nodes(ast.ClassDef) for part in node.body
                   if isinstance(part, ast.FunctionDef)]
        values = [node.attr for place, node in self.nodes(ast.Attribute) if isinstance(node.ctx, ast.Store)]
        self.assertEqual(set(methods) & set(values), set())
        for kind in (str, int, list, tuple, dict, set, bytes):
            self.assertEqual((set(methods) | set(values)) & set(dir(kind)), {"__init__"})

    def test_each_method_stands_once_and_no_init_gives_back_anything(self):
        for place, node in self.nodes(ast.ClassDef):
            methods = [part for part in node.body if isinstance(part, ast.FunctionDef)]
            self.assertEqual(len({part.name for part in methods}), len(methods), place)
            for part in methods:
                given = [inner for inner in ast.walk(part) if isinstance(inner, ast.Return)]
                self.assertTrue(part.name != "__init__" or given == [], place)

    def test_values_are_given_through_self_and_to_no_class(self):
        for place, node in self.nodes(ast.Attribute):
            if isinstance(node.ctx, ast.Store):
                self.assertEqual(node.value.id, "self", place)

    def test_names_and_attributes_that_are_not_used(self):
        for place, node in self.nodes(ast.Name):
            self.assertNotIn(node.id, BARRED_NAMES, place)
        for place, node in self.nodes(ast.Attribute):
            self.assertNotIn(node.attr, BARRED_NAMES, place)
            self.assertFalse(node.attr.startswith("_") and node.attr != "__init__", place)

    def test_each_name_of_a_top_once_and_for_nothing_else(self):
        for name, tree in self.trees.items():
            imported = [alias.name for node in tree.body if isinstance(node, ast.ImportFrom) for alias in node.names]
            defined = [node.name for node in tree.body if isinstance(node, (ast.FunctionDef, ast.ClassDef))]
            given = [node.targets[0].id for node in tree.body if isinstance(node, ast.Assign)]
            top = imported + defined + given
            self.assertEqual(len(set(top)), len(top), name)
            methods = [part.name for node in tree.body if isinstance(node, ast.ClassDef)
                       for part in node.body if isinstance(part, ast.FunctionDef)]
            inner = list(bound_names(tree))
            for bound in defined + given + methods:
                inner.remove(bound)
            self.assertEqual(set(inner) & set(top), set(), name)

    def test_is_stands_beside_none_true_and_false_alone(self):
        for place, node in self.nodes(ast.Compare):
            for sign, value in zip(node.ops, node.comparators):
                if isinstance(sign, (ast.Is, ast.IsNot)):
                    self.assertTrue(isinstance(value, ast.Constant) and value.value in (None, True, False), place)

    def test_keywords(self):
        own = [node.name for place, node in self.nodes(ast.FunctionDef, ast.ClassDef)]
        for place, node in self.nodes(ast.Call):
            called = node.func.id if isinstance(node.func, ast.Name) else node.func.attr
            if called not in own:
                for keyword in node.keywords:
                    self.assertIn(keyword.arg, KEYWORDS_ALLOWED.get(called, ()), place)

    def test_walked_on_the_spot(self):
        walked = [node.iter for place, node in self.nodes(ast.For, ast.comprehension)]
        for place, node in self.nodes(ast.Call):
            if isinstance(node.func, ast.Name) and node.func.id in WALKERS:
                walked += node.args
        for place, node in self.nodes(ast.Call):
            if isinstance(node.func, ast.Name) and node.func.id in WALKED_AT_ONCE:
                self.assertTrue(any(node is other for other in walked), place)

    def test_comprehensions_have_one_for_and_at_most_one_if(self):
        for place, node in self.nodes(ast.ListComp):
            self.assertEqual(len(node.generators), 1, place)
            self.assertLessEqual(len(node.generators[0].ifs), 1, place)

    def test_f_strings_hold_plain_names(self):
        for place, node in self.nodes(ast.FormattedValue):
            self.assertIsInstance(node.value, ast.Name, place)
            self.assertIsNone(node.format_spec, place)
        for place, node in self.nodes(ast.Constant):
            if isinstance(node.value, str):
                self.assertNotIn("%", node.value, place)


if __name__ == "__main__":
    unittest.main()
