"""The package keeps to its small part of Python: those rules that are easy to see in the files, not all of them."""

import ast
import builtins
import pathlib
import re
import unittest

PACKAGE = pathlib.Path(__file__).resolve().parent.parent / "lacepillow"
FILES = sorted(PACKAGE.glob("*.py"))

OWN_NAMES = """len range enumerate zip min max sum abs sorted reversed int str bool list tuple dict set frozenset isinstance
ord repr any all divmod Exception ValueError KeyError LookupError IndexError ZeroDivisionError StopIteration""".split()
METHODS = """append clear copy count endswith extend find get index insert isalnum isalpha isdigit islower isspace isupper
items join keys ljust lower lstrip partition pop remove replace reverse rfind rjust rpartition rsplit rstrip setdefault
split splitlines startswith strip update upper values zfill bit_length""".split()
NO_WORDS = """type typing typing_extensions enum Enum IntEnum StrEnum Flag IntFlag Generic Protocol ABC ABCMeta namedtuple
NamedTuple TypedDict TYPE_CHECKING abstractmethod""".split()
NO_NAMES = """register mro elements open input version_info with_traceback add_note attrgetter breakpoint builtins compile
copyright credits delattr dir eval exec exit gc getattr globals hasattr help id importlib license locals methodcaller os quit
setattr super type vars sys format format_map chr""".split()
STATEMENTS = (ast.FunctionDef, ast.ClassDef, ast.Assign, ast.AugAssign, ast.If, ast.While, ast.For, ast.Return, ast.Break,
              ast.Continue, ast.Pass, ast.Raise, ast.Try, ast.Expr, ast.ImportFrom)
EXPRESSIONS = (ast.Constant, ast.List, ast.Tuple, ast.Dict, ast.BinOp, ast.UnaryOp, ast.BoolOp, ast.Compare, ast.IfExp,
               ast.Call, ast.Attribute, ast.Subscript, ast.Slice, ast.ListComp, ast.Name, ast.Lambda)
CHANGING = "append clear extend insert pop remove reverse setdefault update".split()
WALKED = ("zip", "enumerate", "reversed", "range")
WALKERS = ("list", "tuple", "dict", "sorted", "sum", "any", "all", "enumerate", "zip", "min", "max")


class Language(unittest.TestCase):
    def setUp(self):
        self.trees = {file: ast.parse(file.read_text("ascii")) for file in FILES}

    def nodes(self, *kinds):
        for file, tree in self.trees.items():
            for node in ast.walk(tree):
                if isinstance(node, kinds):
                    yield "%s:%s" % (file.name, getattr(node, "lineno", 0)), node

    def test_files(self):
        names = [file.name for file in PACKAGE.iterdir() if file.name != "__pycache__"]
        self.assertIn("__init__.py", names)
        for name in names:
            self.assertRegex(name, r"^([a-z][a-z0-9_]*|__init__)\.py$")
            self.assertTrue(name == "__init__.py" or not hasattr(builtins, name[:-3]), name)

    def test_signs_and_sizes(self):
        for file in FILES:
            rows = file.read_text("ascii").split("\n")
            self.assertLessEqual(len(rows), 400, file)
            for row in rows:
                self.assertRegex(row, r"^[ -~]{0,120}$", file)
            for word in re.findall(r"\w+", "\n".join(rows)):
                self.assertNotIn(word, NO_WORDS, file)
                self.assertNotRegex(word, "dataclass|overload|contextmanager", file)
        for place, node in self.nodes(ast.FunctionDef):
            self.assertLessEqual(node.end_lineno - node.lineno + 1, 40, place)

    def test_statements_and_expressions(self):
        for place, node in self.nodes(ast.stmt):
            self.assertIsInstance(node, STATEMENTS, place)
            if isinstance(node, ast.Assign):
                self.assertEqual(len(node.targets), 1, place)
            if isinstance(node, ast.Expr):
                self.assertIsInstance(node.value, (ast.Call, ast.Constant), place)
            if isinstance(node, (ast.For, ast.While)):
                self.assertEqual(node.orelse, [], place)
        for place, node in self.nodes(ast.expr):
            self.assertIsInstance(node, EXPRESSIONS, place)
            if isinstance(node, ast.ListComp):
                self.assertEqual(len(node.generators), 1, place)
                self.assertLessEqual(len(node.generators[0].ifs), 1, place)
            if isinstance(node, ast.Constant):
                self.assertIsInstance(node.value, (int, str, type(None)), place)
                self.assertNotIn("%", str(node.value), place)
        for place, node in self.nodes(ast.Div, ast.Pow):
            self.fail(place)

    def test_is_stands_beside_none_alone(self):
        for place, node in self.nodes(ast.Compare):
            for kind, right in zip(node.ops, node.comparators):
                if isinstance(kind, (ast.Is, ast.IsNot)):
                    self.assertTrue(isinstance(right, ast.Constant) and right.value in (None, True, False), place)

    def test_tops_of_files(self):
        for file, tree in self.trees.items():
            bound = []
            self.assertIsNotNone(ast.get_docstring(tree), file)
            for node in tree.body[1:]:
                self.assertIsInstance(node, (ast.ImportFrom, ast.FunctionDef, ast.ClassDef, ast.Assign), file)
                if isinstance(node, ast.Assign):
                    ast.literal_eval(node.value)
                    bound.append(node.targets[0].id)
                elif isinstance(node, ast.ImportFrom):
                    bound += [name.name for name in node.names]
                else:
                    bound.append(node.name)
            self.assertEqual(len(bound), len(set(bound)), file)

    def test_functions_and_classes(self):
        for place, node in self.nodes(ast.FunctionDef):
            self.assertEqual(node.decorator_list, [], place)
            self.assertEqual((node.args.vararg, node.args.kwarg, node.args.kwonlyargs), (None, None, []), place)
            self.assertIsNone(node.returns, place)
        for place, node in self.nodes(ast.ClassDef):
            self.assertEqual((node.decorator_list, node.keywords), ([], []), place)
            self.assertIn([ast.unparse(base) for base in node.bases], ([], ["Exception"], ["ValueError"]), place)

    def test_errors(self):
        """Only the package's own errors are raised and taken, and they are made on the spot."""
        own = [node.name for place, node in self.nodes(ast.ClassDef) if node.bases]
        for place, node in self.nodes(ast.ExceptHandler):
            self.assertIn(ast.unparse(node.type), own, place)
        for place, node in self.nodes(ast.Raise):
            self.assertIsInstance(node.exc, ast.Call, place)
            self.assertIn(ast.unparse(node.exc.func), own, place)
        for place, node in self.nodes(ast.Try):
            self.assertEqual(node.finalbody, [], place)

    def test_what_is_walked_is_not_changed(self):
        for place, node in self.nodes(ast.For):
            walked = node.iter
            while isinstance(walked, ast.Call) and (walked.args or isinstance(walked.func, ast.Attribute)):
                walked = walked.args[0] if walked.args else walked.func.value
            for inner in [one for row in node.body for one in ast.walk(row)]:
                if isinstance(inner, ast.Call) and isinstance(inner.func, ast.Attribute) and inner.func.attr in CHANGING:
                    self.assertNotEqual(ast.unparse(inner.func.value), ast.unparse(walked), place)
                if isinstance(inner, ast.Subscript) and isinstance(inner.ctx, ast.Store):
                    self.assertNotEqual(ast.unparse(inner.value), ast.unparse(walked), place)

    def test_no_sets(self):
        for place, node in self.nodes(ast.Name):
            self.assertNotIn(node.id, ("set", "frozenset"), place)

    def test_imports(self):
        drawn = {}
        for file, tree in self.trees.items():
            drawn[file.stem] = []
            for node in ast.walk(tree):
                if isinstance(node, ast.ImportFrom):
                    self.assertEqual((node.level, node.module.split(".")[0]), (0, "lacepillow"), file)
                    origin = node.module.split(".")[1]
                    drawn[file.stem].append(origin)
                    source = self.trees[PACKAGE / (origin + ".py")]
                    defined = [getattr(one, "name", None) or one.targets[0].id for one in source.body
                               if isinstance(one, (ast.FunctionDef, ast.ClassDef, ast.Assign))]
                    for name in node.names:
                        self.assertIsNone(name.asname, file)
                        self.assertIn(name.name, defined, file)
        self.assertEqual(drawn["__init__"], [])
        while drawn:
            free = [name for name in drawn if not set(drawn[name]) & set(drawn)]
            self.assertNotEqual(free, [], drawn)
            drawn = {name: origins for name, origins in drawn.items() if name not in free}

    def test_names(self):
        for file, tree in self.trees.items():
            reserved = [name.name for node in tree.body if isinstance(node, ast.ImportFrom) for name in node.names]
            reserved += [node.name for node in tree.body if isinstance(node, ast.ClassDef)] + dir(builtins)
            for node in ast.walk(tree):
                if isinstance(node, ast.arg):
                    self.assertNotIn(node.arg, reserved, file)
                if isinstance(node, ast.Name) and isinstance(node.ctx, ast.Store):
                    self.assertNotIn(node.id, reserved, file)
                name = getattr(node, "id", getattr(node, "attr", getattr(node, "arg", getattr(node, "name", None))))
                if name is not None and name != "__init__":
                    self.assertRegex(name, r"^[A-Za-z][A-Za-z0-9_]*$", file)
                    self.assertNotIn(name, NO_NAMES, file)
                if isinstance(node, ast.Name) and hasattr(builtins, node.id):
                    self.assertIn(node.id, OWN_NAMES, file)

    def test_methods_and_values(self):
        methods = [one.name for place, node in self.nodes(ast.ClassDef) for one in node.body
                   if isinstance(one, ast.FunctionDef)]
        values = [node.attr for place, node in self.nodes(ast.Attribute) if isinstance(node.ctx, ast.Store)]
        self.assertEqual(set(methods) & set(values), set())
        taken = [name for kind in (str, int, list, dict, set, bytes, tuple) for name in dir(kind)]
        for name in methods + values:
            self.assertTrue(name == "__init__" or name not in taken, name)
        for place, node in self.nodes(ast.Call):
            if isinstance(node.func, ast.Attribute):
                self.assertIn(node.func.attr, METHODS + methods, place)

    def test_walked_at_once(self):
        allowed = []
        for place, node in self.nodes(ast.For, ast.comprehension):
            allowed.append(id(node.iter))
        for place, node in self.nodes(ast.Call):
            if isinstance(node.func, ast.Name) and node.func.id in WALKERS and node.args:
                allowed.append(id(node.args[0]))
        for place, node in self.nodes(ast.Call):
            name = getattr(node.func, "id", getattr(node.func, "attr", ""))
            if name in WALKED + ("items", "keys", "values"):
                self.assertIn(id(node), allowed, place)
