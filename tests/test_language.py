"""What can be seen of the rules of LANGUAGE.md in the package's own files, by the rules' numbers."""

import ast
import pathlib
import re
import unittest

PACKAGE = pathlib.Path(__file__).resolve().parent.parent / "taxirank"

NODES = """Module Expr Constant ImportFrom alias FunctionDef arguments arg ClassDef Return Assign AugAssign If While For
Break Continue Pass Raise Call Attribute Subscript Slice Name Load Store BinOp UnaryOp BoolOp Compare IfExp List Tuple
Dict ListComp comprehension JoinedStr FormattedValue Lambda keyword Add Sub Mult FloorDiv Mod BitAnd BitOr BitXor
LShift RShift USub Not And Or Eq NotEq Lt LtE Gt GtE In NotIn Is IsNot Try ExceptHandler""".split()

OWN_NAMES = """len range enumerate zip min max sum abs sorted reversed int str bool list tuple dict set frozenset
isinstance ord repr any all divmod Exception ValueError TypeError KeyError IndexError LookupError ZeroDivisionError
ArithmeticError OverflowError RuntimeError NotImplementedError StopIteration""".split()

METHODS = """append clear copy count endswith extend find get index insert isalnum isalpha isdigit islower isspace
isupper items join keys ljust lower lstrip partition pop remove replace reverse rfind rjust rpartition rsplit rstrip
setdefault split splitlines startswith strip update upper values zfill bit_length""".split()

UNSAID = """type typing typing_extensions enum Enum IntEnum StrEnum Flag IntFlag Generic Protocol ABC ABCMeta
namedtuple NamedTuple TypedDict TYPE_CHECKING abstractmethod""".split()

UNUSED = """register mro elements open input version_info with_traceback add_note format format_map""".split()


def files():
    return sorted(PACKAGE.glob("*.py"))


def trees():
    for file in files():
        yield file.name, ast.parse(file.read_text(encoding="utf-8"))


def walked(kind):
    for name, tree in trees():
        for node in ast.walk(tree):
            if isinstance(node, kind):
                yield name, node


def bound_in(node):
    return {found.id for found in ast.walk(node) if isinstance(found, ast.Name) and isinstance(found.ctx, ast.Store)}


class Language(unittest.TestCase):
    def test_files(self):
        # L1, L14
        names = [file.name for file in PACKAGE.iterdir() if file.name != "__pycache__"]
        self.assertIn("__init__.py", names)
        for name in names:
            self.assertRegex(name, r"^(__init__|[a-z][a-z0-9_]*)\.py$")
            self.assertNotRegex(name, r"^(test.*|site|conftest|sitecustomize|usercustomize)\.py$")

    def test_signs_and_size(self):
        # L10, L14
        for file in files():
            text = file.read_bytes().decode("ascii")
            rows = text.split("\n")
            self.assertLessEqual(len(rows), 401, file.name)
            for row in rows:
                self.assertRegex(row, r"^[ -~]{0,120}$", file.name)
        for name, node in walked(ast.FunctionDef):
            self.assertLessEqual(node.end_lineno - node.lineno + 1, 40, (name, node.name))

    def test_words(self):
        # L17
        for file in files():
            text = file.read_text(encoding="ascii")
            self.assertFalse(set(re.findall(r"\w+", text)) & set(UNSAID + UNUSED), file.name)
            self.assertNotRegex(text, "dataclass|overload|contextmanager")

    def test_nodes(self):
        # L6, L7
        for name, node in walked(ast.AST):
            self.assertIn(node.__class__.__name__, NODES, (name, getattr(node, "lineno", 0)))

    def test_assignments_have_one_plain_target(self):
        # L6
        for name, node in walked(ast.Assign):
            self.assertEqual(len(node.targets), 1)
            self.assertNotIsInstance(node.targets[0], (ast.Tuple, ast.List), (name, node.lineno))
        for name, node in walked((ast.For, ast.While, ast.Try)):
            self.assertEqual(node.orelse if not isinstance(node, ast.Try) else node.finalbody, [])

    def test_constants(self):
        # L7, L27
        for name, node in walked(ast.Constant):
            self.assertIn(node.value.__class__.__name__, ("int", "str", "bool", "NoneType"), (name, node.lineno))
            if isinstance(node.value, str):
                self.assertNotIn("%", node.value, (name, node.lineno))
        for name, node in walked(ast.FormattedValue):
            self.assertIsInstance(node.value, ast.Name, (name, node.lineno))

    def test_texts_by_themselves_stand_at_the_top(self):
        # L3, L6
        for name, tree in trees():
            for node in ast.walk(tree):
                if isinstance(node, ast.Expr) and node is not tree.body[0]:
                    self.assertIsInstance(node.value, ast.Call, (name, node.lineno))

    def test_top_of_a_file(self):
        # L3, L15
        for name, tree in trees():
            bound = []
            for node in tree.body[1:]:
                self.assertIsInstance(node, (ast.ImportFrom, ast.FunctionDef, ast.ClassDef, ast.Assign), name)
                if isinstance(node, ast.ImportFrom):
                    bound += [one.name for one in node.names]
                elif isinstance(node, ast.Assign):
                    ast.literal_eval(node.value)
                    bound.append(node.targets[0].id)
                else:
                    bound.append(node.name)
            self.assertEqual(len(bound), len(set(bound)), name)

    def test_imports(self):
        # L2, L16
        drawn = {}
        defined = {name: {getattr(node, "name", None) for node in tree.body} | bound_in(tree) for name, tree in trees()}
        for name, node in walked(ast.ImportFrom):
            self.assertEqual(node.level, 0)
            self.assertRegex(node.module, r"^taxirank\.[a-z]+$")
            source = node.module.split(".")[1] + ".py"
            drawn.setdefault(name, set()).add(source)
            for one in node.names:
                self.assertIsNone(one.asname)
                self.assertIn(one.name, defined[source])
        self.assertNotIn("__init__.py", drawn)
        waiting = {file.name for file in files()}
        while waiting:
            free = {name for name in waiting if not drawn.get(name, set()) & waiting}
            self.assertTrue(free, "files draw from one another")
            waiting -= free

    def test_functions_are_plain(self):
        # L4, L5, L21
        for name, node in walked((ast.FunctionDef, ast.ClassDef)):
            self.assertEqual(node.decorator_list, [], name)
        for name, node in walked(ast.arguments):
            self.assertFalse(node.vararg or node.kwarg or node.kwonlyargs or node.posonlyargs, name)
        for name, node in walked(ast.arg):
            self.assertIsNone(node.annotation, name)

    def test_classes(self):
        # L5, L18, L28
        methods, kept = set(), set()
        for name, node in walked(ast.ClassDef):
            self.assertLessEqual(len(node.bases), 1)
            for part in node.body:
                self.assertIsInstance(part, (ast.FunctionDef, ast.Pass), name)
            methods |= {part.name for part in node.body if isinstance(part, ast.FunctionDef)}
        for name, node in walked(ast.Attribute):
            if isinstance(node.ctx, ast.Store):
                self.assertIsInstance(node.value, (ast.Name, ast.Attribute), name)
                kept.add(node.attr)
        self.assertFalse(methods & kept)
        for name in kept:
            for value in ("", 0, [], {}, set(), b"", ()):
                self.assertFalse(hasattr(value, name), name)

    def test_names(self):
        # L8, L12, L15, L25
        builtins = set(dir(__import__("builtins")))
        for name, tree in trees():
            top = {one for node in tree.body for one in ([node.name] if hasattr(node, "name") else [])}
            top |= {alias.name for node in tree.body if isinstance(node, ast.ImportFrom) for alias in node.names}
            local = {node.arg for node in ast.walk(tree) if isinstance(node, ast.arg)} | bound_in(tree)
            self.assertFalse((top | local) & builtins, name)
            self.assertFalse(local & top, name)
            for one in top | local:
                self.assertRegex(one, r"^[A-Za-z][A-Za-z0-9_]*$")
            for node in ast.walk(tree):
                if isinstance(node, ast.Name) and node.id in builtins:
                    self.assertIn(node.id, OWN_NAMES, (name, node.lineno))
                if isinstance(node, ast.Call) and isinstance(node.func, ast.Attribute):
                    self.assertIn(node.func.attr, METHODS, (name, node.lineno))

    def test_is_stands_beside_none_true_and_false(self):
        # L20
        for name, node in walked(ast.Compare):
            for operator, right in zip(node.ops, node.comparators):
                if isinstance(operator, (ast.Is, ast.IsNot)):
                    self.assertIn(ast.unparse(right), ("None", "True", "False"), (name, node.lineno))


if __name__ == "__main__":
    unittest.main()
