"""That the package keeps to the small part of Python that it is written in, as far as a test can see it."""

import ast
import pathlib
import re
import unittest

PACKAGE = pathlib.Path(__file__).resolve().parent.parent / "takenback"

STATEMENTS = (ast.Assign, ast.AugAssign, ast.If, ast.While, ast.For, ast.Return, ast.Break, ast.Continue, ast.Pass,
              ast.Raise, ast.Try, ast.Expr, ast.FunctionDef, ast.ClassDef, ast.ImportFrom)
EXPRESSIONS = (ast.BinOp, ast.UnaryOp, ast.BoolOp, ast.Compare, ast.IfExp, ast.Call, ast.Attribute, ast.Subscript,
               ast.Slice, ast.ListComp, ast.Constant, ast.Name, ast.List, ast.Tuple, ast.Dict)
OWN_NAMES = ("len", "range", "enumerate", "zip", "min", "max", "sum", "abs", "sorted", "reversed", "int", "str", "bool",
             "list", "tuple", "dict", "set", "frozenset", "isinstance", "ord", "repr", "any", "all", "divmod")
METHODS = ("append clear copy count endswith extend find get index insert isalnum isalpha isdigit islower isspace "
           "isupper items join keys ljust lower lstrip partition pop remove replace reverse rfind rjust rpartition "
           "rsplit rstrip setdefault split splitlines startswith strip update upper values zfill bit_length").split()
WORDS = ("type", "typing", "typing_extensions", "enum", "Enum", "IntEnum", "StrEnum", "Flag", "IntFlag", "Generic",
         "Protocol", "ABC", "ABCMeta", "namedtuple", "NamedTuple", "TypedDict", "TYPE_CHECKING", "abstractmethod")


def files():
    return sorted(PACKAGE.glob("*.py"))


def trees():
    return [(path.name, ast.parse(path.read_text("utf-8"))) for path in files()]


def nodes(*kinds):
    return [(name, node) for name, tree in trees() for node in ast.walk(tree) if isinstance(node, kinds)]


class Language(unittest.TestCase):
    def test_files(self):
        found = sorted(path.name for path in PACKAGE.iterdir() if path.name != "__pycache__")
        self.assertEqual(found, [path.name for path in files()])
        self.assertIn("__init__.py", found)
        for name in found:
            self.assertRegex(name, r"^(__init__|[a-z][a-z0-9_]*)\.py$")

    def test_signs_words_and_sizes(self):
        for path in files():
            text = path.read_text("utf-8")
            rows = text.split("\n")
            self.assertRegex(text, r"^[ -~\n]*$")
            self.assertLessEqual(len(rows), 400)
            self.assertLessEqual(max(len(row) for row in rows), 120)
            for word in re.findall(r"\w+", text):
                self.assertNotIn(word, WORDS)
                self.assertNotRegex(word, "dataclass|overload|contextmanager")

    def test_statements_and_expressions(self):
        for name, node in nodes(ast.stmt):
            self.assertIsInstance(node, STATEMENTS, name)
        for name, node in nodes(ast.expr):
            self.assertIsInstance(node, EXPRESSIONS, name)
        for name, node in nodes(ast.Div, ast.Is, ast.IsNot):
            self.fail(f"{name}: {node}")
        for name, node in nodes(ast.Assign):
            self.assertEqual(len(node.targets), 1)
        for name, node in nodes(ast.While, ast.For):
            self.assertEqual(node.orelse, [])
        for name, node in nodes(ast.ListComp):
            self.assertEqual(len(node.generators), 1)
            self.assertLessEqual(len(node.generators[0].ifs), 1)
        for name, node in nodes(ast.Constant):
            self.assertIn(type(node.value), (int, str, bool, type(None)))

    def test_texts_by_themselves_stand_at_the_top_of_a_file_alone(self):
        for name, tree in trees():
            for node in ast.walk(tree):
                if isinstance(node, ast.Expr) and node is not tree.body[0]:
                    self.assertIsInstance(node.value, ast.Call, name)

    def test_imports(self):
        tops = {path.stem: [node.name for node in tree.body if isinstance(node, (ast.FunctionDef, ast.ClassDef))]
                + [node.targets[0].id for node in tree.body if isinstance(node, ast.Assign)]
                for path, (name, tree) in zip(files(), trees())}
        for name, node in nodes(ast.ImportFrom):
            self.assertEqual(node.level, 0)
            folder, file = node.module.split(".")
            self.assertEqual(folder, "takenback")
            for alias in node.names:
                self.assertIn(alias.name, tops[file])
                self.assertIsNone(alias.asname)

    def test_no_two_files_draw_from_one_another(self):
        drawn = {name[:-3]: {node.module.split(".")[1] for node in ast.walk(tree) if isinstance(node, ast.ImportFrom)}
                 for name, tree in trees()}
        self.assertEqual(drawn["__init__"], set())
        while drawn:
            free = [name for name in drawn if not drawn[name] & set(drawn)]
            self.assertTrue(free, drawn)
            for name in free:
                drawn.pop(name)

    def test_functions_and_classes(self):
        for name, node in nodes(ast.FunctionDef):
            self.assertLessEqual(node.end_lineno - node.lineno + 1, 40)
            self.assertEqual(node.decorator_list, [])
            given = node.args
            self.assertEqual((given.vararg, given.kwarg, given.kwonlyargs, given.posonlyargs), (None, None, [], []))
        for name, node in nodes(ast.ClassDef):
            self.assertEqual(node.decorator_list, [])
            self.assertTrue(all(isinstance(part, ast.FunctionDef) for part in node.body))

    def test_names(self):
        builtin = vars(__builtins__) if not isinstance(__builtins__, dict) else __builtins__
        for name, node in nodes(ast.Name):
            self.assertRegex(node.id, r"^[A-Za-z][A-Za-z0-9_]*$")
            if isinstance(node.ctx, ast.Store):
                self.assertNotIn(node.id, builtin)
            elif node.id in builtin:
                self.assertIn(node.id, OWN_NAMES)
        for name, node in nodes(ast.arg):
            self.assertRegex(node.arg, r"^[A-Za-z][A-Za-z0-9_]*$")
            self.assertNotIn(node.arg, builtin)

    def test_methods(self):
        own = {node.name for name, node in nodes(ast.FunctionDef)}
        stored = {node.attr for name, node in nodes(ast.Attribute) if isinstance(node.ctx, ast.Store)}
        self.assertEqual(own & stored, set())
        for name, node in nodes(ast.Call):
            if isinstance(node.func, ast.Attribute):
                self.assertIn(node.func.attr, METHODS + sorted(own))
        for name, node in nodes(ast.Attribute):
            self.assertIn(node.attr, METHODS + sorted(own | stored))
        for name in stored:
            for value in ("", 0, [], (), {}, set(), b""):
                self.assertFalse(hasattr(value, name), name)


if __name__ == "__main__":
    unittest.main()
