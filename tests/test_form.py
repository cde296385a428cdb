"""The package's files keep to the small part of Python, as far as that can be seen file by file."""

import ast
import builtins
import pathlib
import re
import unittest

PACKAGE = pathlib.Path(__file__).resolve().parent.parent / "strandstore"

STATEMENTS = (ast.FunctionDef, ast.ClassDef, ast.Return, ast.Assign, ast.AugAssign, ast.For, ast.While, ast.If,
              ast.Raise, ast.Try, ast.ImportFrom, ast.Expr, ast.Pass, ast.Break, ast.Continue)
EXPRESSIONS = (ast.BoolOp, ast.BinOp, ast.UnaryOp, ast.Lambda, ast.IfExp, ast.Dict, ast.ListComp, ast.Compare,
               ast.Call, ast.FormattedValue, ast.JoinedStr, ast.Constant, ast.Attribute, ast.Subscript, ast.Name,
               ast.List, ast.Tuple, ast.Slice)
BUILT_IN = set("""len range enumerate zip min max sum abs sorted reversed int str bool list tuple dict set frozenset
isinstance ord repr any all divmod Exception ValueError TypeError KeyError IndexError LookupError ZeroDivisionError
ArithmeticError OverflowError RuntimeError NotImplementedError AttributeError StopIteration""".split())
UNUSED_WORDS = re.compile(r"\b(type|typing|typing_extensions|enum|Enum|IntEnum|StrEnum|Flag|IntFlag|Generic|Protocol|"
                          r"ABC|ABCMeta|namedtuple|NamedTuple|TypedDict|TYPE_CHECKING|abstractmethod)\b"
                          r"|dataclass|overload|contextmanager")
UNUSED_NAMES = set("register mro elements open input version_info with_traceback add_note".split())
OWN_METHODS = {"__init__", "__eq__", "__repr__", "__str__", "__len__"}
PYTHON_METHODS = {name for kind in (str, int, list, dict, set, bytes) for name in vars(kind)}
PYTHON_METHODS_USED = set("""append clear copy count endswith extend find get index insert isalnum isalpha isdigit
islower isspace isupper items join keys ljust lower lstrip partition pop remove replace reverse rfind rjust rpartition
rsplit rstrip setdefault split splitlines startswith strip update upper values zfill bit_length""".split())
TOP_PARTS = (ast.Expr, ast.ImportFrom, ast.Assign, ast.FunctionDef, ast.ClassDef)
WALKED = set("zip enumerate reversed range".split())
WALKERS = set("list tuple dict sorted sum any all enumerate zip min max".split())


def package_files():
    return [path for path in sorted(PACKAGE.rglob("*")) if "__pycache__" not in path.parts]


def walked_on_the_spot(tree):
    """The nodes that stand behind the `in` of a walk, or as the first thing in a call that walks."""
    spots = []
    for node in ast.walk(tree):
        if isinstance(node, (ast.For, ast.comprehension)):
            spots.append(node.iter)
        if isinstance(node, ast.Call) and isinstance(node.func, ast.Name) and node.func.id in WALKERS and node.args:
            spots.append(node.args[0])
    return spots


def bound_names(node):
    """The names that a node binds, itself."""
    if isinstance(node, (ast.FunctionDef, ast.ClassDef)):
        return [node.name]
    if isinstance(node, ast.arg):
        return [node.arg]
    if isinstance(node, ast.Name) and isinstance(node.ctx, ast.Store):
        return [node.id]
    return []


class TestForm(unittest.TestCase):

    def setUp(self):
        self.texts = {path.name: path.read_bytes() for path in package_files()}
        self.trees = {name: ast.parse(text) for name, text in self.texts.items()}

    def each_node(self):
        for name, tree in self.trees.items():
            for node in ast.walk(tree):
                yield f"{name}:{getattr(node, 'lineno', 0)}", node

    def test_files(self):
        for path in package_files():
            self.assertRegex(path.name, r"^[a-z0-9_]+\.py$")
        self.assertIn("__init__.py", self.texts)

    def test_signs_and_lengths(self):
        for name, text in self.texts.items():
            rows = text.decode("ascii").split("\n")
            self.assertLessEqual(len(rows), 401, name)
            self.assertLessEqual(max(len(row) for row in rows), 120, name)
            self.assertLessEqual(set(text), set(range(32, 127)) | {10}, name)
            self.assertIsNone(UNUSED_WORDS.search(text.decode("ascii")), name)

    def test_statements_and_expressions(self):
        for where, node in self.each_node():
            if isinstance(node, ast.stmt):
                self.assertIsInstance(node, STATEMENTS, where)
            if isinstance(node, ast.expr):
                self.assertIsInstance(node, EXPRESSIONS, where)
            if isinstance(node, ast.Assign):
                self.assertEqual(len(node.targets), 1, where)
            if isinstance(node, (ast.For, ast.While)):
                self.assertEqual(node.orelse, [], where)
            if isinstance(node, ast.ListComp):
                self.assertEqual(len(node.generators), 1, where)
                self.assertLessEqual(len(node.generators[0].ifs), 1, where)
            if isinstance(node, ast.Constant):
                self.assertIsInstance(node.value, (int, str, type(None)), where)
            if isinstance(node, (ast.Div, ast.MatMult)):
                self.fail(where)
            if isinstance(node, ast.BinOp) and isinstance(node.op, ast.Pow):
                self.assertIsInstance(node.right, ast.Constant, where)
                self.assertLessEqual(node.right.value, 64, where)

    def test_imports(self):
        for where, node in self.each_node():
            if isinstance(node, ast.ImportFrom):
                self.assertEqual(node.level, 0, where)
                self.assertRegex(node.module, r"^strandstore\.[a-z_]+$", where)
                defining = self.trees[node.module.split(".")[1] + ".py"]
                top = [name for part in defining.body for inner in [part] + getattr(part, "targets", [])
                       for name in bound_names(inner)]
                for name in node.names:
                    self.assertIn(name.name, top, where)
                    self.assertIsNone(name.asname, where)

    def test_no_two_files_draw_from_one_another(self):
        draws_from = {}
        for name, tree in self.trees.items():
            imports = [part for part in tree.body if isinstance(part, ast.ImportFrom)]
            draws_from[name] = {part.module.split(".")[1] + ".py" for part in imports}
        while draws_from:
            free = [name for name, drawn in draws_from.items() if not drawn & set(draws_from)]
            self.assertNotEqual(free, [], draws_from)
            for name in free:
                del draws_from[name]

    def test_the_top_of_a_file(self):
        for name, tree in self.trees.items():
            names = [bound for part in tree.body for inner in [part] + getattr(part, "targets", [])
                     for bound in bound_names(inner)]
            names += [alias.name for part in tree.body if isinstance(part, ast.ImportFrom) for alias in part.names]
            self.assertEqual(len(names), len(set(names)), name)
            for part in tree.body:
                where = f"{name}:{part.lineno}"
                self.assertIsInstance(part, TOP_PARTS, where)
                if isinstance(part, ast.Expr):
                    self.assertIsInstance(part.value, ast.Constant, where)
                if isinstance(part, ast.Assign):
                    ast.literal_eval(part.value)

    def test_locals_are_not_called_like_a_class_or_an_import(self):
        for name, tree in self.trees.items():
            taken = {part.name for part in tree.body if isinstance(part, ast.ClassDef)}
            taken |= {alias.name for part in tree.body if isinstance(part, ast.ImportFrom) for alias in part.names}
            for node in ast.walk(tree):
                if isinstance(node, (ast.arg, ast.Name)):
                    self.assertEqual(taken & set(bound_names(node)), set(), f"{name}:{node.lineno}")

    def test_texts(self):
        for where, node in self.each_node():
            if isinstance(node, ast.Constant) and isinstance(node.value, str):
                self.assertNotIn("%", node.value, where)

    def test_functions(self):
        for where, node in self.each_node():
            if isinstance(node, (ast.FunctionDef, ast.ClassDef)):
                self.assertEqual(node.decorator_list, [], where)
            if isinstance(node, ast.FunctionDef):
                self.assertLessEqual(node.end_lineno - node.lineno + 1, 40, where)
                plain = (node.args.vararg, node.args.kwarg, node.args.kwonlyargs, node.args.posonlyargs)
                self.assertEqual(plain, (None, None, [], []), where)

    def test_names(self):
        for where, node in self.each_node():
            for name in bound_names(node):
                self.assertNotIn(name, dir(builtins), where)
                self.assertNotIn(name, UNUSED_NAMES, where)
                if name not in OWN_METHODS:
                    self.assertRegex(name, r"^[A-Za-z]\w*$", where)
            if isinstance(node, ast.Name) and node.id in dir(builtins):
                self.assertIn(node.id, BUILT_IN, where)
            if isinstance(node, ast.Attribute):
                self.assertNotIn(node.attr, UNUSED_NAMES, where)
                if node.attr in PYTHON_METHODS:
                    self.assertIn(node.attr, PYTHON_METHODS_USED, where)

    def test_methods_and_values_have_names_of_their_own(self):
        methods = set()
        values = set()
        for where, node in self.each_node():
            if isinstance(node, ast.ClassDef):
                methods.update(part.name for part in node.body if isinstance(part, ast.FunctionDef))
            if isinstance(node, ast.Attribute) and isinstance(node.ctx, ast.Store):
                values.add(node.attr)
        self.assertEqual(methods & values, set())

    def test_walked_at_once(self):
        for name, tree in self.trees.items():
            spots = walked_on_the_spot(tree)
            for node in ast.walk(tree):
                if isinstance(node, ast.Call) and isinstance(node.func, ast.Name) and node.func.id in WALKED:
                    self.assertTrue(any(node is spot for spot in spots), f"{name}:{node.lineno}")


if __name__ == "__main__":
    unittest.main()
