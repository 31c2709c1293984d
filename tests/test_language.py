"""The package's files keep to the small part of Python that the program is written in."""

import ast
import builtins
import pathlib
import re
import unittest

PACKAGE = pathlib.Path(__file__).resolve().parent.parent / "widetexts"

ALLOWED_NODES = """
    Module FunctionDef ClassDef arguments arg Return Assign AugAssign AnnAssign For While If Raise Try ExceptHandler
    ImportFrom alias Expr Pass Break Continue BoolOp And Or BinOp Add Sub Mult FloorDiv Mod Pow LShift RShift BitOr
    BitXor BitAnd UnaryOp Invert Not USub UAdd Lambda IfExp Dict Set ListComp comprehension Compare Eq NotEq Lt LtE
    Gt GtE Is IsNot In NotIn Call keyword Constant Attribute Subscript Slice Name List Tuple Load Store JoinedStr
    FormattedValue
""".split()

# chr is left out on purpose, and print too, as the package has no __main__.py.
ALLOWED_BUILTINS = """
    len range enumerate zip min max sum abs sorted reversed int str bool list tuple dict set frozenset isinstance ord
    repr any all divmod Exception ValueError TypeError KeyError IndexError LookupError ZeroDivisionError
    ArithmeticError OverflowError RuntimeError NotImplementedError StopIteration
""".split()

WORDS_NOT_USED = """
    type typing typing_extensions enum Enum IntEnum StrEnum Flag IntFlag Generic Protocol ABC ABCMeta namedtuple
    NamedTuple TypedDict TYPE_CHECKING abstractmethod
""".split()


def package_files():
    return sorted(path for path in PACKAGE.rglob("*") if "__pycache__" not in path.parts)


def sources():
    return [(path, path.read_text(encoding="utf-8")) for path in package_files()]


def nodes():
    for path, text in sources():
        for node in ast.walk(ast.parse(text)):
            yield f"{path.name}:{getattr(node, 'lineno', 0)}", node


def bound_names(node):
    if isinstance(node, ast.Name) and isinstance(node.ctx, ast.Store):
        return [node.id]
    if isinstance(node, (ast.FunctionDef, ast.ClassDef)):
        return [node.name]
    if isinstance(node, ast.arg):
        return [node.arg]
    return []


def names_of_top(path):
    names = []
    for node in ast.parse(path.read_text(encoding="utf-8")).body:
        names.extend(bound_names(node))
        if isinstance(node, ast.Assign):
            names.extend(target.id for target in node.targets)
    return names


def imports_of(path):
    tree = ast.parse(path.read_text(encoding="utf-8"))
    return [node for node in ast.walk(tree) if isinstance(node, ast.ImportFrom)]


def imported_names(path):
    return [alias.name for node in imports_of(path) for alias in node.names]


def drawn_from(path):
    """The files that this one draws from, in however many steps."""
    found = []
    waiting = [path]
    while waiting:
        for node in imports_of(waiting.pop()):
            source = PACKAGE / (node.module.partition(".")[2].replace(".", "/") + ".py")
            if source not in found:
                found.append(source)
                waiting.append(source)
    return found


class LanguageTest(unittest.TestCase):
    def test_only_plain_files(self):
        for path in package_files():
            self.assertRegex(path.relative_to(PACKAGE).as_posix(), r"\A(__init__|[a-z][a-z0-9_]*)\.py\Z")
        self.assertTrue((PACKAGE / "__init__.py").is_file())

    def test_signs_and_sizes(self):
        for path, text in sources():
            self.assertRegex(text, r"\A[ -~\n]*\Z", path.name)
            lines = text.split("\n")
            self.assertLessEqual(len(lines), 400, path.name)
            self.assertLessEqual(max(len(line) for line in lines), 120, path.name)

    def test_functions_are_short_and_plain(self):
        for place, node in nodes():
            if isinstance(node, ast.FunctionDef):
                self.assertLessEqual(node.end_lineno - node.lineno + 1, 40, place)
                self.assertEqual(node.decorator_list, [], place)
                rest = node.args
                self.assertFalse(rest.vararg or rest.kwarg or rest.kwonlyargs or rest.posonlyargs, place)

    def test_only_allowed_forms(self):
        for place, node in nodes():
            self.assertIn(node.__class__.__name__, ALLOWED_NODES, place)
            if isinstance(node, ast.Constant):
                self.assertNotIsInstance(node.value, (float, complex, bytes), place)
            if isinstance(node, ast.Assign):
                self.assertEqual(len(node.targets), 1, place)

    def test_imports_are_the_packages_own(self):
        for place, node in nodes():
            if isinstance(node, ast.ImportFrom):
                self.assertEqual(node.level, 0, place)
                self.assertRegex(node.module, r"\Awidetexts\.[a-z]", place)
                self.assertNotIn("*", [alias.name for alias in node.names], place)

    def test_imports_are_drawn_from_where_they_are_defined(self):
        for place, node in nodes():
            if isinstance(node, ast.ImportFrom):
                source = PACKAGE / (node.module.partition(".")[2].replace(".", "/") + ".py")
                for alias in node.names:
                    self.assertIn(alias.name, names_of_top(source), place)
                    self.assertIsNone(alias.asname, place)

    def test_no_two_files_draw_from_one_another(self):
        for path in package_files():
            self.assertNotIn(path, drawn_from(path), path.name)

    def test_each_name_is_bound_once_at_the_top(self):
        for path in package_files():
            names = names_of_top(path) + imported_names(path)
            self.assertEqual(sorted(names), sorted(set(names)), path.name)

    def test_no_local_is_called_like_an_import_or_a_class(self):
        for path, text in sources():
            tree = ast.parse(text)
            classes = [node.name for node in ast.walk(tree) if isinstance(node, ast.ClassDef)]
            for function in ast.walk(tree):
                if isinstance(function, ast.FunctionDef):
                    locals_of = [name for node in ast.walk(function) for name in bound_names(node)]
                    self.assertEqual(set(locals_of) & set(classes + imported_names(path)), set(), function.name)

    def test_names(self):
        for place, node in nodes():
            if isinstance(node, ast.Name) and hasattr(builtins, node.id):
                self.assertIn(node.id, ALLOWED_BUILTINS, place)
            for name in bound_names(node):
                if name != "__init__":
                    self.assertFalse(hasattr(builtins, name), f"{place} {name}")
                    self.assertRegex(name, r"\A[A-Za-z][A-Za-z0-9_]*\Z", place)

    def test_words_not_used(self):
        for path, text in sources():
            for word in re.findall(r"\w+", text):
                self.assertNotIn(word, WORDS_NOT_USED, path.name)
                self.assertNotRegex(word, "dataclass|overload|contextmanager", path.name)


if __name__ == "__main__":
    unittest.main()
