"""Those rules of LANGUAGE.md that are seen at a glance at the package's files."""

import ast
import builtins
import pathlib
import re
import unittest

PACKAGE = pathlib.Path(__file__).resolve().parent.parent / "mainfires"
FILES = sorted(path for path in PACKAGE.rglob("*") if "__pycache__" not in path.parts)
# L8's names, without those that L27 and L9 rule out.
OWN_NAMES = set(
    "len range enumerate zip min max sum abs sorted reversed int str bool bytes list tuple dict set frozenset"
    " isinstance ord repr any all divmod Exception ValueError TypeError KeyError IndexError LookupError"
    " ZeroDivisionError ArithmeticError OverflowError RuntimeError NotImplementedError AttributeError"
    " StopIteration".split()
)
WORDS = re.compile(
    r"\b(type|typing|typing_extensions|enum|Enum|IntEnum|StrEnum|Flag|IntFlag|Generic|Protocol|ABC|ABCMeta"
    r"|namedtuple|NamedTuple|TypedDict|TYPE_CHECKING|abstractmethod)\b|dataclass|overload|contextmanager"
)
NODES_OUT = (
    ast.GeneratorExp, ast.NamedExpr, ast.With, ast.Match, ast.Global, ast.Nonlocal, ast.Yield, ast.YieldFrom,
    ast.AsyncFunctionDef, ast.Await, ast.Div,
)  # fmt: skip
PLAIN_NODES = (ast.Constant, ast.Tuple, ast.Dict, ast.Name, ast.Load)
# Those of L25 that the package calls.
PYTHONS_METHODS = {"append", "count", "items", "join", "partition", "pop", "split"}


class Language(unittest.TestCase):
    def nodes(self):
        for path in FILES:
            for node in ast.walk(ast.parse(path.read_text(encoding="ascii"))):
                yield path.name, node

    def test_files(self):
        self.assertIn(PACKAGE / "__init__.py", FILES)
        for path in FILES:
            self.assertRegex(path.name, r"^[a-z_][a-z0-9_]*\.py$")

    def test_sizes_and_signs(self):
        for path in FILES:
            text = path.read_text(encoding="ascii")
            self.assertRegex(text, r"\A[ -~\n]*\Z", path.name)
            self.assertLessEqual(len(text.splitlines()), 400, path.name)
            self.assertLessEqual(max(len(line) for line in text.splitlines()), 120, path.name)

    def test_words_that_stand_nowhere(self):
        for path in FILES:
            self.assertIsNone(WORDS.search(path.read_text(encoding="ascii")), path.name)

    def test_functions(self):
        for name, node in self.nodes():
            if isinstance(node, ast.FunctionDef):
                self.assertLessEqual(node.end_lineno - node.lineno + 1, 40, (name, node.name))
                self.assertEqual(node.decorator_list, [], (name, node.name))
                taken = node.args
                self.assertEqual((taken.vararg, taken.kwarg, taken.posonlyargs), (None, None, []), (name, node.name))

    def test_nothing_outside_the_language(self):
        for name, node in self.nodes():
            self.assertNotIsInstance(node, NODES_OUT, name)
            if isinstance(node, ast.Constant):
                self.assertNotIsInstance(node.value, float, name)
                self.assertFalse(isinstance(node.value, str) and "%" in node.value, name)

    def test_imports(self):
        for name, node in self.nodes():
            self.assertNotIsInstance(node, ast.Import, name)
            if isinstance(node, ast.ImportFrom):
                self.assertEqual(node.level, 0, name)
                self.assertTrue(node.module.startswith("mainfires."), name)
                self.assertNotIn("*", [each.name for each in node.names], name)

    def test_names(self):
        for name, node in self.nodes():
            if isinstance(node, ast.Name):
                self.assertRegex(node.id, r"^[A-Za-z]", name)
                if hasattr(builtins, node.id):
                    self.assertIn(node.id, OWN_NAMES, name)
                    self.assertIsInstance(node.ctx, ast.Load, (name, node.id))
            if isinstance(node, ast.arg):
                self.assertRegex(node.arg, r"^[A-Za-z]", name)
                self.assertFalse(hasattr(builtins, node.arg), (name, node.arg))

    def test_is_stands_beside_none_and_truths_alone(self):
        for name, node in self.nodes():
            if isinstance(node, ast.Compare):
                for sign, right in zip(node.ops, node.comparators):
                    if isinstance(sign, (ast.Is, ast.IsNot)):
                        self.assertTrue(isinstance(right, ast.Constant) and right.value in (None, True, False), name)

    def test_each_name_of_a_top_is_bound_once(self):
        for path in FILES:
            bound = own_names(path) + drawn_names(path)
            self.assertEqual(len(bound), len(set(bound)), path.name)

    def test_names_are_drawn_from_the_file_that_defines_them(self):
        for path in FILES:
            for node in ast.parse(path.read_text(encoding="ascii")).body:
                if isinstance(node, ast.ImportFrom):
                    for each in node.names:
                        self.assertIsNone(each.asname, path.name)
                        self.assertIn(each.name, own_names(file_of(node.module)), (path.name, each.name))

    def test_what_is_drawn_is_used(self):
        for path in FILES:
            nodes = ast.walk(ast.parse(path.read_text(encoding="ascii")))
            used = {node.id for node in nodes if isinstance(node, ast.Name)}
            self.assertLessEqual(set(drawn_names(path)), used, path.name)

    def test_no_two_files_draw_from_one_another(self):
        drawn = {path: files_drawn(path) for path in FILES}
        while drawn:
            free = [path for path in drawn if not any(other in drawn for other in drawn[path])]
            self.assertTrue(free, drawn)
            for path in free:
                del drawn[path]

    def test_no_local_is_called_like_an_import_or_a_class(self):
        for path in FILES:
            tree = ast.parse(path.read_text(encoding="ascii"))
            taken = drawn_names(path) + [node.name for node in tree.body if isinstance(node, ast.ClassDef)]
            for node in ast.walk(tree):
                if isinstance(node, ast.arg):
                    self.assertNotIn(node.arg, taken, path.name)
                if isinstance(node, ast.Name) and isinstance(node.ctx, ast.Store):
                    self.assertNotIn(node.id, taken, path.name)

    def test_nothing_is_handed_in_with_a_star(self):
        for name, node in self.nodes():
            if isinstance(node, ast.Call):
                self.assertFalse([each for each in node.args if isinstance(each, ast.Starred)], name)
                self.assertFalse([each for each in node.keywords if each.arg is None], name)

    def test_what_is_walked_is_not_kept(self):
        for name, node in self.nodes():
            if isinstance(node, (ast.Assign, ast.Return)) and isinstance(node.value, ast.Call):
                walked = ("zip", "enumerate", "reversed", "range", "items", "keys", "values")
                self.assertNotIn(called(node.value), walked, name)

    def test_classes(self):
        for name, node in self.nodes():
            if isinstance(node, ast.ClassDef):
                self.assertLessEqual(len(node.bases), 1, (name, node.name))
                self.assertEqual(node.decorator_list + node.keywords, [], (name, node.name))
                rest = [each for each in node.body if not isinstance(each, ast.FunctionDef)]
                docstring = [each for each in node.body[:1] if isinstance(each, ast.Expr)]
                self.assertEqual(rest, docstring, (name, node.name))

    def test_methods_and_values_have_names_apart(self):
        methods, values = self.methods(), self.values()
        self.assertFalse(methods & values)
        for kind in (str, int, list, tuple, dict, set, bytes):
            self.assertFalse((methods | values) & set(dir(kind)) - {"__init__"}, kind)
        for name, node in self.nodes():
            if isinstance(node, ast.Attribute) and isinstance(node.ctx, ast.Load):
                self.assertIn(node.attr, methods | values | PYTHONS_METHODS, name)

    def methods(self):
        classes = [node for name, node in self.nodes() if isinstance(node, ast.ClassDef)]
        return {each.name for node in classes for each in node.body if isinstance(each, ast.FunctionDef)}

    def values(self):
        nodes = [node for name, node in self.nodes() if isinstance(node, ast.Attribute)]
        return {node.attr for node in nodes if isinstance(node.ctx, ast.Store)}

    def test_errors_are_made_where_they_are_raised(self):
        errors = own_names(PACKAGE / "errors.py")
        for name, node in self.nodes():
            if isinstance(node, ast.Raise):
                self.assertIn(called(node.exc), errors, name)

    def test_a_tops_values_are_plain(self):
        for path in FILES:
            for node in ast.parse(path.read_text(encoding="ascii")).body:
                if isinstance(node, ast.Assign):
                    for each in ast.walk(node.value):
                        self.assertIsInstance(each, PLAIN_NODES, path.name)


def file_of(module):
    return PACKAGE / (module.split(".", 1)[1] + ".py")


def own_names(path):
    """The names that the file's own defs, classes and values have at its top."""
    found = []
    for node in ast.parse(path.read_text(encoding="ascii")).body:
        if isinstance(node, (ast.FunctionDef, ast.ClassDef)):
            found.append(node.name)
        elif isinstance(node, ast.Assign):
            found.extend([target.id for target in node.targets])
    return found


def imports(path):
    return [node for node in ast.parse(path.read_text(encoding="ascii")).body if isinstance(node, ast.ImportFrom)]


def drawn_names(path):
    return [each.asname or each.name for node in imports(path) for each in node.names]


def files_drawn(path):
    return [file_of(node.module) for node in imports(path)]


def called(node):
    """The last word of what is called."""
    return node.func.attr if isinstance(node.func, ast.Attribute) else getattr(node.func, "id", "")


if __name__ == "__main__":
    unittest.main()
