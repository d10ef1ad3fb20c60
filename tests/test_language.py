"""The rules of the language that can be seen in the package's files without running them."""

import ast
import builtins
import pathlib
import re
import unittest

PACKAGE = pathlib.Path(__file__).resolve().parent.parent / "vitrine"
FILES = sorted(PACKAGE.glob("*.py"))

# L8, without print and chr, which L9 and L27 take out.
OWN_NAMES = set(
    "len range enumerate zip min max sum abs sorted reversed int str bool bytes list tuple dict set frozenset "
    "isinstance ord repr any all divmod Exception ValueError TypeError KeyError IndexError LookupError "
    "ZeroDivisionError ArithmeticError OverflowError RuntimeError NotImplementedError AttributeError "
    "StopIteration".split()
)
METHODS = {"__init__", "__eq__", "__repr__", "__str__", "__len__"}
OUT_WORDS = (
    "type typing typing_extensions enum Enum IntEnum StrEnum Flag IntFlag Generic Protocol ABC ABCMeta namedtuple "
    "NamedTuple TypedDict TYPE_CHECKING abstractmethod"
).split()
OUT_NODES = (
    ast.With, ast.Match, ast.Global, ast.Nonlocal, ast.Yield, ast.YieldFrom, ast.AsyncFunctionDef, ast.AsyncFor,
    ast.AsyncWith, ast.Await, ast.GeneratorExp, ast.NamedExpr, ast.Div, ast.MatMult, ast.Import,
)


def trees():
    for path in FILES:
        yield path, ast.parse(path.read_text())


def nodes(kinds):
    for path, tree in trees():
        for node in ast.walk(tree):
            if isinstance(node, kinds):
                yield path.name, node


def bound_names(path, node):
    """The names that a node gives a meaning."""
    if isinstance(node, (ast.FunctionDef, ast.ClassDef)):
        return [node.name]
    if isinstance(node, ast.arg):
        return [node.arg]
    if isinstance(node, ast.Name) and isinstance(node.ctx, ast.Store):
        return [node.id]
    return []


class Language(unittest.TestCase):
    def test_the_package_holds_plain_files_alone(self):
        held = sorted(path.name for path in PACKAGE.iterdir() if path.name != "__pycache__")
        self.assertEqual(held, [path.name for path in FILES])
        self.assertIn("__init__.py", held)
        for name in held:
            self.assertTrue(name == "__init__.py" or re.fullmatch(r"[a-z][a-z0-9_]*\.py", name), name)

    def test_signs_and_sizes(self):
        for path in FILES:
            text = path.read_text()
            self.assertEqual([sign for sign in text if not (" " <= sign <= "~" or sign == "\n")], [], path.name)
            rows = text.splitlines()
            self.assertLessEqual(len(rows), 400, path.name)
            self.assertLessEqual(max(len(row) for row in rows), 120, path.name)
        for name, node in nodes(ast.FunctionDef):
            self.assertLessEqual(node.end_lineno - node.lineno + 1, 40, (name, node.name))

    def test_words_that_stand_nowhere(self):
        for path in FILES:
            words = re.findall(r"[A-Za-z0-9_]+", path.read_text())
            self.assertEqual([word for word in words if word in OUT_WORDS], [], path.name)
            self.assertFalse(re.search("dataclass|overload|contextmanager", path.read_text()), path.name)

    def test_imports(self):
        own = ["vitrine." + path.stem for path in FILES]
        for name, node in nodes(ast.ImportFrom):
            self.assertEqual(node.level, 0, name)
            self.assertIn(node.module, own, name)
            self.assertNotIn("*", [part.name for part in node.names], name)
            self.assertEqual(node.col_offset, 0, name)

    def test_forms_that_are_not_used(self):
        for name, node in nodes(OUT_NODES):
            self.fail((name, node.lineno, node))
        for name, node in nodes((ast.FunctionDef, ast.ClassDef)):
            self.assertEqual(node.decorator_list, [], (name, node.lineno))
        for name, node in nodes(ast.arguments):
            self.assertEqual((node.vararg, node.kwarg, node.posonlyargs), (None, None, []), name)
        for name, node in nodes((ast.For, ast.While)):
            self.assertEqual(node.orelse, [], (name, node.lineno))

    def test_values(self):
        for name, node in nodes(ast.Constant):
            self.assertNotIsInstance(node.value, (float, complex), (name, node.lineno))
            if isinstance(node.value, str):
                self.assertNotIn("%", node.value, (name, node.lineno))

    def test_names(self):
        for name, node in nodes(ast.AST):
            for word in bound_names(name, node):
                if word not in METHODS:
                    self.assertTrue(re.fullmatch(r"[A-Za-z][A-Za-z0-9_]*", word), (name, word))
                    method = isinstance(node, ast.FunctionDef) and node.col_offset > 0
                    self.assertFalse(hasattr(builtins, word) and not method, (name, word))

    def test_locals_are_not_called_like_imports_and_classes(self):
        for path, tree in trees():
            taken = {node.name for node in tree.body if isinstance(node, ast.ClassDef)}
            for node in tree.body:
                if isinstance(node, ast.ImportFrom):
                    taken |= {part.asname or part.name for part in node.names}
            for node in ast.walk(tree):
                if isinstance(node, (ast.arg, ast.Name)):
                    self.assertFalse(taken & set(bound_names(path, node)), (path.name, node.lineno))

    def test_a_names_file_binds_it_once(self):
        for path, tree in trees():
            names = []
            for node in tree.body:
                if isinstance(node, ast.ImportFrom):
                    names += [part.name for part in node.names]
                elif isinstance(node, (ast.FunctionDef, ast.ClassDef)):
                    names.append(node.name)
                elif isinstance(node, ast.Assign):
                    names += [target.id for target in node.targets]
            self.assertEqual(len(names), len(set(names)), path.name)

    def test_no_name_is_a_method_and_a_value(self):
        methods, values, asked = set(), set(), set()
        for name, node in nodes(ast.ClassDef):
            for part in ast.walk(node):
                if isinstance(part, ast.FunctionDef):
                    methods.add(part.name)
        for name, node in nodes(ast.Attribute):
            (values if isinstance(node.ctx, ast.Store) else asked).add(node.attr)
        self.assertEqual(methods & values, set())
        self.assertEqual(values & {word for kind in (str, int, list, dict, set, bytes) for word in dir(kind)}, set())
        own = {word for kind in (str, list, dict, set) for word in dir(kind)} | methods | values
        self.assertEqual(asked - own, set())

    def test_nothing_draws_from_itself(self):
        drawn = {"vitrine." + path.stem: set() for path in FILES}
        for path, tree in trees():
            for node in tree.body:
                if isinstance(node, ast.ImportFrom):
                    drawn["vitrine." + path.stem].add(node.module)
        while drawn:
            done = [name for name, others in drawn.items() if not others & set(drawn)]
            self.assertTrue(done, drawn)
            for name in done:
                del drawn[name]

    def test_of_pythons_own_names_those_that_are_listed(self):
        for name, node in nodes(ast.Name):
            if hasattr(builtins, node.id):
                self.assertIn(node.id, OWN_NAMES, (name, node.lineno))


if __name__ == "__main__":
    unittest.main()
