"""The form of the package's files: the rules of LANGUAGE.md that a walk over the parsed file can see."""

import ast
import builtins
import pathlib
import re
import unittest

PACKAGE = pathlib.Path(__file__).resolve().parent.parent / "netsieve"
BUILT_IN = set("""len range enumerate zip min max sum abs sorted reversed int str bool list tuple dict set frozenset
    isinstance ord repr any all divmod Exception ValueError TypeError KeyError IndexError LookupError
    ZeroDivisionError ArithmeticError OverflowError RuntimeError NotImplementedError AttributeError
    StopIteration""".split())
NOT_NAMES = set("""attrgetter breakpoint builtins compile copyright credits delattr dir eval exec exit gc getattr
    globals hasattr help id importlib license locals methodcaller os quit setattr super type vars sys register mro
    elements open input""".split())
NOT_WORDS = re.compile(r"\b(type|typing|typing_extensions|enum|Enum|IntEnum|StrEnum|Flag|IntFlag|Generic|Protocol|ABC"
                       r"|ABCMeta|namedtuple|NamedTuple|TypedDict|TYPE_CHECKING|abstractmethod)\b"
                       r"|dataclass|overload|contextmanager")
STATEMENTS = (ast.Assign, ast.AugAssign, ast.If, ast.While, ast.For, ast.Return, ast.Break, ast.Continue, ast.Pass,
              ast.Raise, ast.Try, ast.Expr, ast.FunctionDef, ast.ClassDef, ast.ImportFrom)
NOT_EXPRESSIONS = (ast.SetComp, ast.DictComp, ast.GeneratorExp, ast.NamedExpr, ast.Starred, ast.Await, ast.Yield,
                   ast.YieldFrom)
METHODS = set("""append clear copy count endswith extend find get index insert isalnum isalpha isdigit islower isspace
    isupper items join keys ljust lower lstrip partition pop remove replace reverse rfind rjust rpartition rsplit
    rstrip setdefault split splitlines startswith strip update upper values zfill bit_length""".split())
UNDERSCORED = ("__init__", "__eq__", "__repr__", "__str__", "__len__")


def bound_names(node):
    if isinstance(node, ast.Name) and isinstance(node.ctx, ast.Store):
        return [node.id]
    if isinstance(node, (ast.FunctionDef, ast.ClassDef)):
        return [node.name]
    if isinstance(node, ast.arg):
        return [node.arg]
    if isinstance(node, ast.ImportFrom):
        return [name.asname or name.name for name in node.names]
    return []


class Form(unittest.TestCase):
    def setUp(self):
        self.files = sorted(path for path in PACKAGE.rglob("*") if path.is_file() and "__pycache__" not in path.parts)
        self.texts = {path.name: path.read_bytes().decode("ascii") for path in self.files}
        self.trees = {name: ast.parse(text) for name, text in self.texts.items()}

    def walked(self):
        return [(name, node) for name, tree in self.trees.items() for node in ast.walk(tree)]

    def where(self, name, node):
        return f"{name}:{node.lineno}"

    def test_only_plainly_named_python_files(self):
        self.assertIn("__init__.py", self.texts)
        for path in self.files:
            self.assertRegex(path.name, r"^[a-z0-9_]+\.py$")

    def test_sizes_and_signs(self):
        for name, text in self.texts.items():
            rows = text.split("\n")
            self.assertLessEqual(len(rows), 400, name)
            for number, row in enumerate(rows, start=1):
                self.assertRegex(row, r"^[ -~]{0,120}$", f"{name}:{number}")
        for name, node in self.walked():
            if isinstance(node, ast.FunctionDef):
                self.assertLessEqual(node.end_lineno - node.lineno + 1, 40, self.where(name, node))

    def test_words_that_stand_nowhere(self):
        for name, text in self.texts.items():
            self.assertIsNone(NOT_WORDS.search(text), name)

    def test_imports_from_the_package_alone(self):
        for name, tree in self.trees.items():
            for node in ast.walk(tree):
                if isinstance(node, ast.ImportFrom):
                    self.assertIn(node, tree.body, self.where(name, node))
                    self.assertEqual(node.level, 0, self.where(name, node))
                    self.assertRegex(node.module, r"^netsieve\.[a-z0-9_]+$", self.where(name, node))
                    drawn = self.trees[node.module.split(".")[1] + ".py"]
                    defined = [bound for top in drawn.body if not isinstance(top, ast.ImportFrom)
                               for inner in ([top] + getattr(top, "targets", [])) for bound in bound_names(inner)]
                    for alias in node.names:
                        self.assertIn(alias.name, defined, self.where(name, node))

    def test_statements_and_expressions(self):
        for name, node in self.walked():
            if isinstance(node, ast.stmt):
                self.assertIsInstance(node, STATEMENTS, self.where(name, node))
            if isinstance(node, ast.expr):
                self.assertNotIsInstance(node, NOT_EXPRESSIONS, self.where(name, node))
            if isinstance(node, (ast.FunctionDef, ast.ClassDef)):
                self.assertEqual(node.decorator_list, [], self.where(name, node))
            if isinstance(node, (ast.For, ast.While)):
                self.assertEqual(node.orelse, [], self.where(name, node))
            if isinstance(node, ast.Constant):
                self.assertIsInstance(node.value, (int, str, bool, None.__class__), self.where(name, node))
            self.assertNotIsInstance(node, (ast.Div, ast.MatMult), name)

    def test_names(self):
        known = set(dir(builtins))
        for name, node in self.walked():
            for bound in bound_names(node):
                self.assertTrue(bound in UNDERSCORED or not bound.startswith("_"), f"{name}: {bound}")
                self.assertNotIn(bound, known | NOT_NAMES, name)
            if isinstance(node, ast.Name) and isinstance(node.ctx, ast.Load):
                self.assertFalse(node.id in known - BUILT_IN, self.where(name, node))
                self.assertNotIn(node.id, NOT_NAMES, self.where(name, node))

    def test_methods(self):
        own = {node.name for _, node in self.walked() if isinstance(node, ast.FunctionDef)}
        for name, node in self.walked():
            if isinstance(node, ast.Call) and isinstance(node.func, ast.Attribute):
                self.assertIn(node.func.attr, METHODS | own | set(UNDERSCORED), self.where(name, node))

    def test_the_top_of_a_module(self):
        for name, tree in self.trees.items():
            self.assertIsNotNone(ast.get_docstring(tree), name)
            for node in tree.body[1:]:
                self.assertIsInstance(node, (ast.ImportFrom, ast.FunctionDef, ast.ClassDef, ast.Assign),
                                      self.where(name, node))
                if isinstance(node, ast.Assign):
                    ast.literal_eval(node.value)
            tops = [bound for node in tree.body for inner in ([node] + getattr(node, "targets", []))
                    for bound in bound_names(inner)]
            self.assertEqual(len(tops), len(set(tops)), name)

    def test_lists_and_dicts_of_the_top_hold_tuples_and_are_only_read(self):
        for name, tree in self.trees.items():
            kept = [node.targets[0].id for node in tree.body
                    if isinstance(node, ast.Assign) and isinstance(node.value, (ast.List, ast.Dict))]
            for node in tree.body:
                if isinstance(node, ast.Assign) and isinstance(node.value, (ast.List, ast.Dict)):
                    inner = [part for part in ast.walk(node.value) if isinstance(part, (ast.List, ast.Dict))]
                    self.assertEqual(len(inner), 1, self.where(name, node))
            read = [part for node in ast.walk(tree) for part in self.read_parts(node)]
            for node in ast.walk(tree):
                if isinstance(node, ast.Name) and node.id in kept and isinstance(node.ctx, ast.Load):
                    self.assertIn(node, read, self.where(name, node))

    def read_parts(self, node):
        if isinstance(node, ast.Subscript) and isinstance(node.ctx, ast.Load):
            return [node.value]
        if isinstance(node, ast.Compare) and isinstance(node.ops[0], (ast.In, ast.NotIn)):
            return node.comparators
        if isinstance(node, (ast.For, ast.comprehension)):
            return [node.iter]
        return []

    def test_is_beside_none_and_truths_alone(self):
        for name, node in self.walked():
            if isinstance(node, ast.Compare) and isinstance(node.ops[0], (ast.Is, ast.IsNot)):
                self.assertIn(ast.unparse(node.comparators[0]), ("None", "True", "False"), self.where(name, node))

    def test_one_target_and_one_loop(self):
        for name, node in self.walked():
            if isinstance(node, ast.Assign):
                self.assertEqual(len(node.targets), 1, self.where(name, node))
                self.assertIsInstance(node.targets[0], (ast.Name, ast.Attribute, ast.Subscript), self.where(name, node))
            if isinstance(node, ast.ListComp):
                self.assertEqual(len(node.generators), 1, self.where(name, node))
                self.assertLessEqual(len(node.generators[0].ifs), 1, self.where(name, node))

    def test_no_local_is_called_like_an_import_or_a_class(self):
        for name, tree in self.trees.items():
            taken = [bound for node in tree.body if isinstance(node, (ast.ImportFrom, ast.ClassDef))
                     for bound in bound_names(node)]
            for node in ast.walk(tree):
                if isinstance(node, (ast.arg, ast.Name)):
                    self.assertFalse(set(bound_names(node)) & set(taken), self.where(name, node))

    def test_no_two_files_draw_from_one_another(self):
        drawn = {name[:-3]: [node.module.split(".")[1] for node in tree.body if isinstance(node, ast.ImportFrom)]
                 for name, tree in self.trees.items()}
        left = dict(drawn)
        while left:
            free = [name for name in left if not set(left[name]) & set(left)]
            self.assertTrue(free, left)
            left = {name: left[name] for name in left if name not in free}

    def test_errors_are_made_on_the_spot(self):
        for name, node in self.walked():
            if isinstance(node, ast.Raise):
                self.assertIsInstance(node.exc, ast.Call, self.where(name, node))

    def test_no_name_is_a_method_and_a_value(self):
        methods = {node.name for _, top in self.walked() if isinstance(top, ast.ClassDef) for node in top.body
                   if isinstance(node, ast.FunctionDef)}
        values = {node.attr for _, node in self.walked()
                  if isinstance(node, ast.Attribute) and isinstance(node.ctx, ast.Store)}
        self.assertEqual(methods & values, set())

    def test_texts(self):
        for name, node in self.walked():
            if isinstance(node, ast.Constant) and isinstance(node.value, str):
                self.assertNotIn("%", node.value, self.where(name, node))

    def test_keywords(self):
        allowed = {"sorted": ("key", "reverse"), "min": ("key", "default"), "max": ("key", "default"),
                   "sum": ("start",), "enumerate": ("start",), "zip": ("strict",)}
        for name, node in self.walked():
            if isinstance(node, ast.Call) and node.keywords:
                for keyword in node.keywords:
                    self.assertIn(keyword.arg, allowed.get(ast.unparse(node.func), ()), self.where(name, node))


if __name__ == "__main__":
    unittest.main()
