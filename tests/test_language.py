"""The package keeps to the small part of Python that it's written in."""

import ast
import pathlib
import re
import unittest

PACKAGE = pathlib.Path(__file__).resolve().parent.parent / "growingschemas"

STATEMENTS = (ast.Assign, ast.AugAssign, ast.If, ast.While, ast.For, ast.Return, ast.Break, ast.Continue, ast.Pass,
              ast.Raise, ast.Try, ast.Expr, ast.FunctionDef, ast.ClassDef, ast.ImportFrom)
EXPRESSIONS = (ast.Constant, ast.List, ast.Tuple, ast.Dict, ast.Set, ast.BinOp, ast.UnaryOp, ast.Compare, ast.BoolOp,
               ast.IfExp, ast.Call, ast.Attribute, ast.Subscript, ast.Slice, ast.ListComp, ast.Name, ast.Lambda,
               ast.JoinedStr, ast.FormattedValue)
PYTHONS_OWN = """len range enumerate zip min max sum abs sorted reversed int str bool list tuple dict set frozenset
    isinstance ord repr any all divmod Exception ValueError KeyError IndexError LookupError ZeroDivisionError
    StopIteration""".split()
METHODS = """append clear copy count endswith extend find get index insert isalnum isalpha isdigit islower isspace
    isupper items join keys ljust lower lstrip partition pop remove replace reverse rfind rjust rpartition rsplit
    rstrip setdefault split splitlines startswith strip update upper values zfill bit_length""".split()
NEVER = """register mro elements open input version_info with_traceback add_note attrgetter breakpoint builtins compile
    copyright credits delattr dir eval exec exit gc getattr globals hasattr help id importlib license locals
    methodcaller os quit setattr super type vars sys format format_map chr print""".split()
NO_SUCH_WORDS = """type typing typing_extensions enum Enum IntEnum StrEnum Flag IntFlag Generic Protocol ABC ABCMeta
    namedtuple NamedTuple TypedDict TYPE_CHECKING abstractmethod""".split()


def files():
    return sorted(PACKAGE.glob("*.py"))


def trees():
    return [(path, ast.parse(path.read_text())) for path in files()]


def nodes(*sorts):
    return [(path.name, node) for path, tree in trees() for node in ast.walk(tree) if isinstance(node, sorts)]


class Language(unittest.TestCase):
    def test_files(self):
        for path in PACKAGE.iterdir():
            if path.name != "__pycache__":
                self.assertRegex(path.name, r"^(__init__|[a-z][a-z0-9_]*)\.py$")
        self.assertTrue((PACKAGE / "__init__.py").exists())

    def test_signs_and_words(self):
        for path in files():
            text = path.read_text()
            self.assertEqual(re.findall(r"[^ -~\n]", text), [], path.name)
            words = re.findall(r"\w+", text)
            self.assertEqual([word for word in words if word in NO_SUCH_WORDS], [], path.name)
            self.assertIsNone(re.search("dataclass|overload|contextmanager", text))

    def test_size(self):
        for path, tree in trees():
            rows = path.read_text().split("\n")
            self.assertLessEqual(len(rows), 400, path.name)
            self.assertLessEqual(max(len(row) for row in rows), 120, path.name)
        for name, node in nodes(ast.FunctionDef):
            self.assertLessEqual(node.end_lineno - node.lineno + 1, 40, (name, node.name))

    def test_imports(self):
        drawn = {}
        for path, tree in trees():
            sources = [node.module for node in ast.walk(tree) if isinstance(node, ast.ImportFrom)]
            self.assertEqual([s for s in sources if not re.match(r"growingschemas\.[a-z]+$", s)], [], path.name)
            drawn[path.stem] = {source.split(".")[1] for source in sources}
        # Each round takes those away that draw from none of the rest; none may be left over.
        while drawn:
            free = [name for name in drawn if not drawn[name] & set(drawn)]
            self.assertNotEqual(free, [], "files draw from one another: " + ", ".join(drawn))
            drawn = {name: drawn[name] for name in drawn if name not in free}

    def test_names_come_from_where_they_are_defined(self):
        defined = {}
        for path, tree in trees():
            own = [node.name for node in tree.body if isinstance(node, (ast.FunctionDef, ast.ClassDef))]
            own += [node.targets[0].id for node in tree.body if isinstance(node, ast.Assign)]
            self.assertEqual(len(own), len(set(own)), path.name)
            defined[path.stem] = own
        for name, node in nodes(ast.ImportFrom):
            for alias in node.names:
                self.assertIn(alias.name, defined[node.module.split(".")[1]], name)

    def test_top_of_a_module(self):
        for path, tree in trees():
            functions = [node.name for node in tree.body if isinstance(node, ast.FunctionDef)]
            for k, node in enumerate(tree.body):
                if isinstance(node, ast.Expr):
                    self.assertEqual(k, 0, path.name)
                    self.assertIsInstance(node.value, ast.Constant)
                elif isinstance(node, ast.Assign):
                    used = [part.id for part in ast.walk(node.value) if isinstance(part, ast.Name)]
                    self.assertEqual([name for name in used if name not in functions], [], path.name)
                    self.assertFalse([part for part in ast.walk(node.value) if isinstance(part, (ast.Call, ast.BinOp))])
                else:
                    self.assertIsInstance(node, (ast.ImportFrom, ast.FunctionDef, ast.ClassDef), path.name)

    def test_statements_and_expressions(self):
        for name, node in nodes(ast.stmt):
            self.assertIsInstance(node, STATEMENTS, (name, node.lineno))
        for name, node in nodes(ast.expr):
            self.assertIsInstance(node, EXPRESSIONS, (name, node.lineno))
        for name, node in nodes(ast.Assign):
            self.assertEqual(len(node.targets), 1, (name, node.lineno))
        for name, node in nodes(ast.For, ast.While):
            self.assertEqual(node.orelse, [], (name, node.lineno))
        for name, node in nodes(ast.Try):
            self.assertEqual(node.finalbody, [], (name, node.lineno))
        for name, node in nodes(ast.BinOp, ast.AugAssign):
            self.assertNotIsInstance(node.op, (ast.Div, ast.Pow, ast.MatMult), (name, node.lineno))

    def test_constants(self):
        for name, node in nodes(ast.Constant):
            self.assertIsInstance(node.value, (int, str, type(None)), (name, node.lineno))
            if isinstance(node.value, str):
                self.assertNotIn("%", node.value, (name, node.lineno))

    def test_functions_and_classes(self):
        for name, node in nodes(ast.FunctionDef):
            arguments = node.args
            self.assertFalse(arguments.vararg or arguments.kwarg or arguments.kwonlyargs or arguments.posonlyargs)
            self.assertEqual(node.decorator_list, [], (name, node.name))
            self.assertTrue(node.name == "__init__" or not node.name.startswith("_"), (name, node.name))
        for name, node in nodes(ast.ClassDef):
            self.assertLessEqual(len(node.bases), 1, (name, node.name))
            for part in node.body:
                self.assertIsInstance(part, (ast.FunctionDef, ast.Pass), (name, node.name))

    def test_names(self):
        builtin = list(dir(__builtins__)) if not isinstance(__builtins__, dict) else list(__builtins__)
        for path, tree in trees():
            imported = [alias.name for node in ast.walk(tree) if isinstance(node, ast.ImportFrom) for alias in node.names]
            classes = [node.name for node in tree.body if isinstance(node, ast.ClassDef)]
            for node in ast.walk(tree):
                bound = None
                if isinstance(node, ast.Name):
                    self.assertNotIn(node.id, NEVER, (path.name, node.lineno))
                    self.assertRegex(node.id, r"^[A-Za-z][A-Za-z0-9_]*$")
                    if node.id in builtin:
                        self.assertIn(node.id, PYTHONS_OWN, (path.name, node.lineno))
                    if isinstance(node.ctx, ast.Store):
                        bound = node.id
                elif isinstance(node, ast.arg):
                    bound = node.arg
                if bound is not None:
                    self.assertNotIn(bound, builtin + imported + classes, path.name)

    def test_attributes(self):
        methods = {part.name for name, node in nodes(ast.ClassDef) for part in node.body
                   if isinstance(part, ast.FunctionDef)}
        stored = {node.attr for name, node in nodes(ast.Attribute) if isinstance(node.ctx, ast.Store)}
        called = {node.func.attr for name, node in nodes(ast.Call) if isinstance(node.func, ast.Attribute)}
        taken = {word for kind in (str, int, list, dict, set, bytes, tuple) for word in dir(kind)}
        self.assertEqual(methods & stored, set())
        self.assertEqual((methods - {"__init__"}) & taken, set())
        self.assertEqual(stored & taken, set())
        self.assertEqual(called - methods - set(METHODS), set())
        self.assertEqual({node.attr for name, node in nodes(ast.Attribute)} & set(NEVER), set())

    def test_is_stands_beside_plain_values(self):
        for name, node in nodes(ast.Compare):
            for operator, right in zip(node.ops, node.comparators):
                if isinstance(operator, (ast.Is, ast.IsNot)):
                    self.assertIsInstance(right, ast.Constant, (name, node.lineno))

    def test_errors(self):
        for name, node in nodes(ast.ExceptHandler):
            self.assertIsInstance(node.type, ast.Name, (name, node.lineno))
            self.assertNotIn(node.type.id, ("Exception", "TypeError"), (name, node.lineno))
        for name, node in nodes(ast.Raise):
            self.assertIsInstance(node.exc, ast.Call, (name, node.lineno))

    def test_sets_are_not_kept(self):
        for path, tree in trees():
            # A set's only use here: how many there are.
            for node in ast.walk(tree):
                if isinstance(node, ast.Call):
                    for argument in node.args:
                        if isinstance(argument, ast.Call) and getattr(argument.func, "id", "") == "set":
                            self.assertEqual(getattr(node.func, "id", ""), "len", (path.name, node.lineno))
                if isinstance(node, (ast.Assign, ast.Return, ast.For)):
                    value = node.iter if isinstance(node, ast.For) else node.value
                    self.assertFalse(isinstance(value, ast.Call) and getattr(value.func, "id", "") == "set", path.name)


if __name__ == "__main__":
    unittest.main()
