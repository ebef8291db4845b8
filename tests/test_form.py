"""The package keeps to its small part of Python, and so to point 1: no clock, no chance, no files."""

import ast
import builtins
import pathlib
import re
import unittest

import foldrows

PACKAGE = pathlib.Path(foldrows.__file__).parent

NODES = {
    "Module", "ImportFrom", "alias", "FunctionDef", "arguments", "arg", "Lambda", "ClassDef",
    "Assign", "AugAssign", "If", "While", "For", "Return", "Break", "Continue", "Pass", "Raise", "Try",
    "ExceptHandler", "Expr", "Constant", "List", "Tuple", "Dict", "Name", "Load", "Store", "BinOp", "Add", "Sub",
    "Mult", "FloorDiv", "Mod", "UnaryOp", "USub", "Not", "BoolOp", "And", "Or", "Compare", "Eq", "NotEq", "Lt",
    "LtE", "Gt", "GtE", "In", "NotIn", "Is", "IsNot", "IfExp", "Call", "keyword", "Attribute", "Subscript", "Slice",
    "ListComp", "comprehension", "JoinedStr", "FormattedValue",
}

BUILTINS = set(
    "len range enumerate zip min max sum abs sorted reversed int str bool list tuple dict set frozenset isinstance "
    "ord repr any all divmod Exception ValueError TypeError KeyError IndexError LookupError ZeroDivisionError "
    "ArithmeticError OverflowError RuntimeError NotImplementedError AttributeError StopIteration".split()
)

METHODS = set(
    "append clear copy count endswith extend find get index insert isalnum isalpha isdigit islower isspace isupper "
    "items join keys ljust lower lstrip partition pop remove replace reverse rfind rjust rpartition rsplit rstrip "
    "setdefault split splitlines startswith strip update upper values zfill bit_length".split()
)

PYTHONS_OWN = {name for name in dir(builtins) if not name.startswith("_")}

BARRED_WORDS = re.compile(
    r"\b(type|typing|typing_extensions|enum|Enum|IntEnum|StrEnum|Flag|IntFlag|Generic|Protocol|ABC|ABCMeta"
    r"|namedtuple|NamedTuple|TypedDict|TYPE_CHECKING|abstractmethod)\b|dataclass|overload|contextmanager"
)


def sources():
    return {path.stem: path.read_text(encoding="utf-8") for path in sorted(PACKAGE.glob("*.py"))}


def trees():
    return {name: ast.parse(text) for name, text in sources().items()}


def nodes():
    for name, tree in trees().items():
        for node in ast.walk(tree):
            yield f"{name}.py:{getattr(node, 'lineno', 0)}", node


def bound_names(tree):
    """The names that a file binds itself, wherever in it."""
    names = set()
    for node in ast.walk(tree):
        if isinstance(node, (ast.FunctionDef, ast.ClassDef)):
            names.add(node.name)
        elif isinstance(node, ast.arg):
            names.add(node.arg)
        elif isinstance(node, ast.Name) and isinstance(node.ctx, ast.Store):
            names.add(node.id)
        elif isinstance(node, ast.ExceptHandler) and node.name:
            names.add(node.name)
    return names


def imported_names(tree):
    return {alias.name for node in ast.walk(tree) if isinstance(node, ast.ImportFrom) for alias in node.names}


def files_drawn_from(tree):
    return [node.module.split(".")[1] for node in ast.walk(tree) if isinstance(node, ast.ImportFrom)]


class Files(unittest.TestCase):
    def test_only_plain_python_files_lie_in_the_package(self):
        for path in PACKAGE.iterdir():
            if path.name != "__pycache__":
                self.assertRegex(path.name, r"^(__init__|__main__|[a-z][a-z0-9_]*)\.py$")
                self.assertFalse(path.name.startswith("test"))
                self.assertNotIn(path.stem, PYTHONS_OWN)

    def test_signs_rows_and_lengths(self):
        for name, text in sources().items():
            rows = text.split("\n")
            self.assertLessEqual(len(rows), 400, name)
            for number, row in enumerate(rows, start=1):
                self.assertRegex(row, r"^[ -~]{0,120}$", f"{name}.py:{number}")
                self.assertIsNone(BARRED_WORDS.search(row), f"{name}.py:{number}")

    def test_functions_are_short(self):
        for place, node in nodes():
            if isinstance(node, ast.FunctionDef):
                self.assertLessEqual(node.end_lineno - node.lineno + 1, 40, place)


class Imports(unittest.TestCase):
    def test_only_the_package_itself_is_drawn_from(self):
        for place, node in nodes():
            self.assertNotIsInstance(node, ast.Import, place)
            if isinstance(node, ast.ImportFrom):
                self.assertEqual(node.level, 0, place)
                self.assertRegex(node.module, r"^foldrows\.[a-z0-9_]+$", place)

    def test_each_name_comes_from_the_file_that_defines_it(self):
        known = {name: bound_names(tree) for name, tree in trees().items()}
        for place, node in nodes():
            if isinstance(node, ast.ImportFrom):
                for alias in node.names:
                    self.assertIn(alias.name, known[node.module.split(".")[1]], place)

    def test_no_two_files_draw_from_one_another(self):
        drawn = {name: files_drawn_from(tree) for name, tree in trees().items()}
        self.assertEqual(drawn["__init__"], [])
        for start in drawn:
            seen, left = set(), list(drawn[start])
            while left:
                name = left.pop()
                if name not in seen:
                    seen.add(name)
                    left.extend(drawn[name])
            self.assertNotIn(start, seen)


class Statements(unittest.TestCase):
    def test_only_the_small_part_of_the_language_is_used(self):
        for place, node in nodes():
            self.assertIn(node.__class__.__name__, NODES, place)

    def test_expressions_by_themselves_are_calls_or_a_files_docstring(self):
        for tree in trees().values():
            docstring = tree.body[0]
            for node in ast.walk(tree):
                if isinstance(node, ast.Expr) and node is not docstring:
                    self.assertIsInstance(node.value, ast.Call, node.lineno)

    def test_no_decorator_no_annotation_no_open_parameters(self):
        for place, node in nodes():
            self.assertFalse(getattr(node, "decorator_list", []), place)
            self.assertIsNone(getattr(node, "annotation", None), place)
            self.assertIsNone(getattr(node, "returns", None), place)
            if isinstance(node, ast.arguments):
                self.assertFalse(node.vararg or node.kwarg or node.kwonlyargs or node.posonlyargs, place)

    def test_one_target_in_an_assignment_and_no_else_behind_a_loop(self):
        for place, node in nodes():
            if isinstance(node, ast.Assign):
                self.assertEqual(len(node.targets), 1, place)
                self.assertNotIsInstance(node.targets[0], (ast.Tuple, ast.List), place)
            if isinstance(node, (ast.For, ast.While)):
                self.assertFalse(node.orelse, place)


class Names(unittest.TestCase):
    def test_each_name_is_bound_here_or_is_one_of_the_few_built_in(self):
        for name, tree in trees().items():
            known = bound_names(tree) | imported_names(tree) | BUILTINS
            for node in ast.walk(tree):
                if isinstance(node, ast.Name):
                    self.assertIn(node.id, known, f"{name}.py:{node.lineno}")

    def test_names_are_plain_and_none_of_pythons_own(self):
        for name, tree in trees().items():
            for bound in bound_names(tree) - {"__init__"}:
                self.assertRegex(bound, r"^[A-Za-z][A-Za-z0-9_]*$", name)
                self.assertNotIn(bound, PYTHONS_OWN, name)

    def test_no_name_of_a_file_is_called_like_one_that_it_draws_in(self):
        for name, tree in trees().items():
            self.assertEqual(bound_names(tree) & imported_names(tree), set(), name)

    def test_no_parameter_and_no_local_is_called_like_a_class_of_its_file(self):
        for name, tree in trees().items():
            classes = {node.name for node in tree.body if isinstance(node, ast.ClassDef)}
            inner = {node.id for node in ast.walk(tree) if isinstance(node, ast.Name)
                     and isinstance(node.ctx, ast.Store)}
            inner |= {node.arg for node in ast.walk(tree) if isinstance(node, ast.arg)}
            self.assertEqual(classes & inner, set(), name)

    def test_only_the_listed_methods_are_called(self):
        own = set().union(*(bound_names(tree) for tree in trees().values()))
        stored = {node.attr for _, node in nodes() if isinstance(node, ast.Attribute)
                  and isinstance(node.ctx, ast.Store)}
        for place, node in nodes():
            if isinstance(node, ast.Attribute):
                self.assertIn(node.attr, METHODS | own | stored, place)


if __name__ == "__main__":
    unittest.main()
