"""The package's files keep to the plain part of Python that the program is written in."""

import ast
import builtins
import pathlib
import re
import unittest

PACKAGE = pathlib.Path(__file__).resolve().parent.parent / "printwell"

OWN_NAMES = set(
    "len range enumerate zip min max sum abs sorted reversed int str bool list tuple dict set frozenset isinstance"
    " ord repr any all divmod Exception ValueError TypeError KeyError IndexError LookupError ZeroDivisionError"
    " ArithmeticError OverflowError RuntimeError NotImplementedError AttributeError StopIteration".split()
)
OWN_METHODS = set(
    "append clear copy count endswith extend find get index insert isalnum isalpha isdigit islower isspace isupper"
    " items join keys ljust lower lstrip partition pop remove replace reverse rfind rjust rpartition rsplit rstrip"
    " setdefault split splitlines startswith strip update upper values zfill bit_length".split()
)
UNDERSCORED = {"__init__", "__eq__", "__repr__", "__str__", "__len__"}
WORDS_OUT = (
    r"\b(type|typing|typing_extensions|enum|Enum|IntEnum|StrEnum|Flag|IntFlag|Generic|Protocol|ABC|ABCMeta|namedtuple"
    r"|NamedTuple|TypedDict|TYPE_CHECKING|abstractmethod)\b|dataclass|overload|contextmanager"
)
NAMES_OUT = {"register", "mro", "elements", "open", "input", "version_info", "with_traceback", "add_note", "chr"}
NODES = (
    ast.Module, ast.ImportFrom, ast.alias, ast.FunctionDef, ast.arguments, ast.arg, ast.ClassDef, ast.Lambda,
    ast.Assign, ast.AugAssign, ast.If, ast.While, ast.For, ast.Return, ast.Break, ast.Continue, ast.Pass, ast.Raise,
    ast.Try, ast.ExceptHandler, ast.Expr, ast.Constant, ast.List, ast.Tuple, ast.Dict, ast.BinOp, ast.UnaryOp,
    ast.BoolOp, ast.Compare, ast.IfExp, ast.Call, ast.keyword, ast.Attribute, ast.Name, ast.Subscript, ast.Slice,
    ast.ListComp, ast.comprehension, ast.JoinedStr, ast.FormattedValue, ast.operator, ast.unaryop, ast.boolop,
    ast.cmpop, ast.expr_context,
)


class FormTest(unittest.TestCase):
    def setUp(self):
        self.sources = {path.stem: path.read_text("utf-8") for path in PACKAGE.glob("*.py")}
        self.trees = {name: ast.parse(source) for name, source in self.sources.items()}

    def nodes(self, *kinds):
        return [(name, node) for name in self.trees for node in ast.walk(self.trees[name]) if isinstance(node, kinds)]

    def names_at_the_top(self, name):
        names = []
        for node in self.trees[name].body[1:]:
            if isinstance(node, ast.Assign):
                names.append(node.targets[0].id)
            elif not isinstance(node, ast.ImportFrom):
                names.append(node.name)
        return names

    def refuse(self, name, node, why):
        self.fail(f"{name}.py, row {getattr(node, 'lineno', '?')}: {why}")

    def test_files(self):
        self.assertIn("__init__", self.sources)
        for path in PACKAGE.iterdir():
            if path.name != "__pycache__":
                self.assertRegex(path.name, r"^(__init__|[a-z][a-z0-9_]*)\.py$")

    def test_signs_sizes_and_words(self):
        for name, source in self.sources.items():
            self.assertRegex(source, r"\A[ -~\n]*\Z", name)
            self.assertIsNone(re.search(WORDS_OUT, source), name)
            rows = source.split("\n")
            self.assertLessEqual(len(rows), 400, name)
            self.assertLessEqual(max(len(row) for row in rows), 120, name)

    def test_functions(self):
        for name, node in self.nodes(ast.FunctionDef):
            self.assertLessEqual(node.end_lineno - node.lineno + 1, 40, node.name)
            taken = node.args
            self.assertFalse(taken.vararg or taken.kwarg or taken.kwonlyargs or taken.posonlyargs, node.name)
            self.assertFalse(node.decorator_list, node.name)

    def test_parts_of_the_language(self):
        for name, tree in self.trees.items():
            for node in ast.walk(tree):
                if not isinstance(node, NODES) or isinstance(node, (ast.Div, ast.MatMult)):
                    self.refuse(name, node, "outside the language")
                if isinstance(node, (ast.For, ast.While)) and node.orelse:
                    self.refuse(name, node, "else behind a loop")
                if isinstance(node, ast.Try) and node.finalbody:
                    self.refuse(name, node, "finally")
                if isinstance(node, ast.Assign) and len(node.targets) != 1:
                    self.refuse(name, node, "several targets")
                if isinstance(node, ast.ListComp) and (len(node.generators) != 1 or len(node.generators[0].ifs) > 1):
                    self.refuse(name, node, "more than one for or if")

    def test_calls_by_themselves(self):
        for name, tree in self.trees.items():
            for node in ast.walk(tree):
                if isinstance(node, ast.Expr) and node != tree.body[0] and not isinstance(node.value, ast.Call):
                    self.refuse(name, node, "neither the module's docstring nor a call")

    def test_values(self):
        for name, node in self.nodes(ast.Constant):
            if not (node.value is None or isinstance(node.value, (bool, int, str))):
                self.refuse(name, node, "another kind of value")
            if isinstance(node.value, str) and chr(37) in node.value:
                self.refuse(name, node, "the sign 37 in a text")

    def test_is_stands_beside_none_true_and_false_alone(self):
        for name, node in self.nodes(ast.Compare):
            for operator, right in zip(node.ops, node.comparators):
                if isinstance(operator, (ast.Is, ast.IsNot)):
                    self.assertIsInstance(right, ast.Constant)
                    self.assertIn(right.value, (None, True, False))

    def test_f_strings_have_plain_names(self):
        for name, node in self.nodes(ast.FormattedValue):
            if not isinstance(node.value, ast.Name) or node.format_spec or node.conversion not in (-1, ord("r")):
                self.refuse(name, node, "more than a plain name in braces")

    def test_imports_are_own_and_make_no_ring(self):
        drawn = {name: set() for name in self.trees}
        for name, node in self.nodes(ast.ImportFrom):
            self.assertIn(node, self.trees[name].body)
            self.assertEqual(node.level, 0)
            whole, dot, source = node.module.partition(".")
            self.assertEqual((whole, dot), ("printwell", "."))
            for alias in node.names:
                self.assertIn(alias.name, self.names_at_the_top(source))
            drawn[name] |= {source, "__init__"}
        while drawn:
            free = [name for name in drawn if not drawn[name] & set(drawn)]
            self.assertTrue(free, f"files that draw from one another: {sorted(drawn)}")
            drawn = {name: drawn[name] for name in drawn if name not in free}

    def test_top_of_modules(self):
        for name, tree in self.trees.items():
            self.assertIsNotNone(ast.get_docstring(tree), name)
            for node in tree.body[1:]:
                self.assertIsInstance(node, (ast.ImportFrom, ast.FunctionDef, ast.ClassDef, ast.Assign), name)
            bound = self.names_at_the_top(name)
            self.assertEqual(len(bound), len(set(bound)), name)

    def test_locals_are_not_called_like_classes_and_imports(self):
        for name, tree in self.trees.items():
            taken = [alias.name for node in tree.body if isinstance(node, ast.ImportFrom) for alias in node.names]
            taken += [node.name for node in tree.body if isinstance(node, ast.ClassDef)]
            for node in ast.walk(tree):
                if isinstance(node, ast.arg):
                    self.assertNotIn(node.arg, taken)
                if isinstance(node, ast.Name) and isinstance(node.ctx, ast.Store):
                    self.assertNotIn(node.id, taken)

    def test_no_name_is_a_method_and_a_value(self):
        methods = {part.name for name, node in self.nodes(ast.ClassDef) for part in node.body
                   if isinstance(part, ast.FunctionDef)}
        values = {node.attr for name, node in self.nodes(ast.Attribute) if isinstance(node.ctx, ast.Store)}
        self.assertFalse(methods & values)
        pythons_own = {word for kind in (str, int, list, dict, set, bytes, tuple) for word in vars(kind)}
        self.assertFalse((methods | values) & pythons_own - UNDERSCORED)

    def test_classes_hold_methods_alone(self):
        for name, node in self.nodes(ast.ClassDef):
            self.assertIn(node, self.trees[name].body)
            self.assertLessEqual(len(node.bases), 1)
            self.assertFalse(node.decorator_list or node.keywords)
            for part in node.body:
                self.assertIsInstance(part, (ast.FunctionDef, ast.Pass), node.name)

    def test_names_that_are_read(self):
        for name, node in self.nodes(ast.Name):
            if hasattr(builtins, node.id) and not (isinstance(node.ctx, ast.Load) and node.id in OWN_NAMES):
                self.refuse(name, node, f"{node.id} is not to be used so")

    def test_names_that_are_given(self):
        given = [(name, node, node.name) for name, node in self.nodes(ast.FunctionDef, ast.ClassDef)]
        given += [(name, node, node.arg) for name, node in self.nodes(ast.arg)]
        given += [(name, node, node.id) for name, node in self.nodes(ast.Name)]
        given += [(name, node, node.attr) for name, node in self.nodes(ast.Attribute)]
        for name, node, word in given:
            plain = not word.startswith("_") or word in UNDERSCORED
            if not plain or word in NAMES_OUT or not word.isascii():
                self.refuse(name, node, f"the name {word}")
            if isinstance(node, ast.arg) and hasattr(builtins, word):
                self.refuse(name, node, f"{word} is a name of Python's own")

    def test_methods(self):
        own = {node.name for name, node in self.nodes(ast.FunctionDef)}
        for name, node in self.nodes(ast.Call):
            if isinstance(node.func, ast.Attribute) and node.func.attr not in OWN_METHODS | own | UNDERSCORED:
                self.refuse(name, node, f"the method {node.func.attr}")
