"""The package keeps to its small part of Python: what of L1 to L28 a walk over the syntax can see."""

import ast
import builtins
import pathlib
import re
import unittest

PACKAGE = pathlib.Path(__file__).resolve().parent.parent / "lossline"

STATEMENTS = (ast.FunctionDef, ast.ClassDef, ast.Return, ast.Assign, ast.AugAssign, ast.For, ast.While, ast.If, ast.Raise,
              ast.Try, ast.ImportFrom, ast.Expr, ast.Pass, ast.Break, ast.Continue)
EXPRESSIONS = (ast.BoolOp, ast.BinOp, ast.UnaryOp, ast.IfExp, ast.Dict, ast.ListComp, ast.Compare, ast.Call, ast.Constant,
               ast.Attribute, ast.Subscript, ast.Name, ast.List, ast.Tuple, ast.Slice, ast.JoinedStr, ast.FormattedValue,
               ast.Lambda)
ERRORS = """Exception ValueError TypeError KeyError IndexError LookupError ZeroDivisionError ArithmeticError
OverflowError RuntimeError NotImplementedError AttributeError StopIteration""".split()
OWN_NAMES = """len range enumerate zip min max sum abs sorted reversed int str bool list tuple dict set frozenset
isinstance ord repr any all divmod""".split() + ERRORS
METHODS = """append clear copy count endswith extend find get index insert isalnum isalpha isdigit islower isspace
isupper items join keys ljust lower lstrip partition pop remove replace reverse rfind rjust rpartition rsplit rstrip
setdefault split splitlines startswith strip update upper values zfill bit_length""".split()
KEPT_BY_VALUES = set().union(*(dir(kind) for kind in (str, int, list, dict, set, bytes)))
NOT_USED = """register mro elements open input version_info with_traceback add_note attrgetter breakpoint builtins
compile copyright credits delattr dir eval exec exit gc getattr globals hasattr help id importlib license locals
methodcaller os quit setattr super type vars sys __name__ format format_map""".split()
WORDS = re.compile(r"\b(type|typing|typing_extensions|enum|Enum|IntEnum|StrEnum|Flag|IntFlag|Generic|Protocol|ABC|ABCMeta"
                   r"|namedtuple|NamedTuple|TypedDict|TYPE_CHECKING|abstractmethod)\b|dataclass|overload|contextmanager")
PLAIN = re.compile(r"\A[A-Za-z][A-Za-z0-9_]*\Z")


def sources():
    return {path: path.read_text(encoding="utf-8") for path in sorted(PACKAGE.glob("*.py"))}


def bound_names(tree):
    """All names that a file binds: its defs, classes, parameters and locals."""
    for node in ast.walk(tree):
        if isinstance(node, (ast.FunctionDef, ast.ClassDef)):
            yield node.name
        elif isinstance(node, ast.arg):
            yield node.arg
        elif isinstance(node, ast.Name) and isinstance(node.ctx, ast.Store):
            yield node.id


def own_methods_and_values(trees):
    methods, values = set(), set()
    for tree in trees:
        for node in ast.walk(tree):
            if isinstance(node, ast.ClassDef):
                methods |= {method.name for method in node.body if isinstance(method, ast.FunctionDef)}
            elif isinstance(node, ast.Attribute) and isinstance(node.ctx, ast.Store):
                values.add(node.attr)
    return methods - {"__init__"}, values


class Language(unittest.TestCase):
    def setUp(self):
        self.sources = sources()
        self.trees = {path: ast.parse(text) for path, text in self.sources.items()}
        self.assertIn(PACKAGE / "stream.py", self.trees)

    def each_node(self, *kinds):
        for path, tree in self.trees.items():
            for node in ast.walk(tree):
                if isinstance(node, kinds):
                    yield f"{path.name}:{getattr(node, 'lineno', 0)}", node

    def test_files(self):
        self.assertTrue((PACKAGE / "__init__.py").is_file())
        for path in PACKAGE.iterdir():
            if path.name != "__pycache__":
                self.assertRegex(path.name, r"^[a-z0-9_]+\.py$")
                self.assertTrue(path.stem == "__init__" or not hasattr(builtins, path.stem), path.name)

    def test_sizes_and_signs(self):
        for path, text in self.sources.items():
            self.assertRegex(text, r"\A[\n -~]*\Z", path.name)
            self.assertIsNone(WORDS.search(text), path.name)
            rows = text.split("\n")
            self.assertLessEqual(len(rows), 401, path.name)
            self.assertLessEqual(max(map(len, rows)), 120, path.name)
        for where, node in self.each_node(ast.FunctionDef):
            self.assertLessEqual(node.end_lineno - node.lineno + 1, 40, where)

    def test_forms(self):
        for where, node in self.each_node(ast.stmt):
            self.assertIsInstance(node, STATEMENTS, where)
            self.assertFalse(getattr(node, "orelse", []) and isinstance(node, (ast.For, ast.While)), where)
            self.assertFalse(getattr(node, "finalbody", []), where)
            self.assertFalse(getattr(node, "decorator_list", []), where)
            if isinstance(node, ast.Assign):
                self.assertEqual(len(node.targets), 1, where)
        for where, node in self.each_node(ast.expr):
            self.assertIsInstance(node, EXPRESSIONS, where)
        for where, node in self.each_node(ast.operator):
            self.assertNotIsInstance(node, (ast.Div, ast.MatMult), where)
        for where, node in self.each_node(ast.Constant):
            self.assertIn(type(node.value), (int, str, bool, type(None)), where)
        for where, node in self.each_node(ast.ListComp):
            self.assertEqual(len(node.generators), 1, where)
            self.assertLessEqual(len(node.generators[0].ifs), 1, where)

    def test_texts_by_themselves_are_at_a_file_s_top(self):
        for path, tree in self.trees.items():
            self.assertIsNotNone(ast.get_docstring(tree), path.name)
        tops = {id(tree.body[0]) for tree in self.trees.values()}
        for where, node in self.each_node(ast.Expr):
            self.assertTrue(id(node) in tops or isinstance(node.value, ast.Call), where)

    def test_imports(self):
        drawn = {path.stem: set() for path in self.trees}
        for path, tree in self.trees.items():
            for node in ast.walk(tree):
                if isinstance(node, ast.ImportFrom):
                    self.assertIn(node, tree.body)
                    self.assertEqual(node.level, 0)
                    package, name = node.module.split(".")
                    self.assertEqual(package, "lossline")
                    drawn[path.stem] |= {name, "__init__"}
                    defined = set(bound_names(self.trees[PACKAGE / f"{name}.py"]))
                    for alias in node.names:
                        self.assertIn(alias.name, defined)
                        self.assertIsNone(alias.asname)
        while drawn:
            free = [name for name in drawn if not drawn[name] & set(drawn)]
            self.assertTrue(free, f"a ring of imports: {sorted(drawn)}")
            for name in free:
                del drawn[name]

    def test_tops(self):
        allowed = (ast.Expr, ast.ImportFrom, ast.FunctionDef, ast.ClassDef, ast.Assign)
        for path, tree in self.trees.items():
            bound = []
            for node in tree.body:
                self.assertIsInstance(node, allowed, path.name)
                if isinstance(node, ast.Assign):
                    ast.literal_eval(node.value)
                    bound.append(node.targets[0].id)
                elif isinstance(node, (ast.FunctionDef, ast.ClassDef)):
                    bound.append(node.name)
                elif isinstance(node, ast.ImportFrom):
                    bound += [alias.name for alias in node.names]
            self.assertEqual(len(bound), len(set(bound)), path.name)

    def test_functions(self):
        for where, node in self.each_node(ast.arguments):
            self.assertFalse(node.vararg or node.kwarg or node.kwonlyargs or node.posonlyargs, where)

    def test_names(self):
        for path, tree in self.trees.items():
            imported = {alias.name for node in tree.body if isinstance(node, ast.ImportFrom) for alias in node.names}
            classes = [node.name for node in ast.walk(tree) if isinstance(node, ast.ClassDef)]
            for name in bound_names(tree):
                if name == "__init__":
                    continue
                self.assertRegex(name, PLAIN, path.name)
                self.assertFalse(hasattr(builtins, name), f"{path.name}: {name}")
                self.assertNotIn(name, NOT_USED, path.name)
                self.assertNotIn(name, imported, path.name)
            for name in classes:
                self.assertEqual(list(bound_names(tree)).count(name), 1, f"{path.name}: {name}")

    def test_names_of_python_s_own(self):
        for path, tree in self.trees.items():
            known = set(bound_names(tree)) | set(OWN_NAMES)
            for node in ast.walk(tree):
                if isinstance(node, ast.ImportFrom):
                    known |= {alias.name for alias in node.names}
            for node in ast.walk(tree):
                if isinstance(node, ast.Name):
                    self.assertIn(node.id, known, f"{path.name}:{node.lineno}")

    def test_methods_and_values(self):
        methods, values = own_methods_and_values(self.trees.values())
        self.assertEqual(methods & values, set())
        self.assertEqual((methods | values) & KEPT_BY_VALUES, set())
        self.assertEqual((methods | values) & set(NOT_USED), set())
        for where, node in self.each_node(ast.Attribute):
            self.assertIn(node.attr, methods | values | set(METHODS), where)
            if isinstance(node.ctx, ast.Store):
                self.assertIsInstance(node.value, ast.Name, where)

    def test_is(self):
        for where, node in self.each_node(ast.Compare):
            for operator, right in zip(node.ops, node.comparators):
                if isinstance(operator, (ast.Is, ast.IsNot)):
                    self.assertTrue(isinstance(right, ast.Constant) and right.value in (None, True, False), where)

    def test_powers_and_texts(self):
        for where, node in self.each_node(ast.BinOp):
            if isinstance(node.op, ast.Pow):
                self.assertTrue(isinstance(node.right, ast.Constant) and 0 <= node.right.value <= 64, where)
        for where, node in self.each_node(ast.Constant):
            self.assertFalse(isinstance(node.value, str) and "%" in node.value, where)

    def test_walked_at_once(self):
        walks = ("zip", "enumerate", "reversed", "range")
        walkers = ("list", "tuple", "dict", "sorted", "sum", "any", "all", "enumerate", "zip", "min", "max")
        fine = set()
        for _, node in self.each_node(ast.For, ast.comprehension):
            fine.add(id(node.iter))
        for _, node in self.each_node(ast.Call):
            if isinstance(node.func, ast.Name) and node.func.id in walkers and node.args:
                fine.add(id(node.args[0]))
        for where, node in self.each_node(ast.Call):
            if isinstance(node.func, ast.Name) and node.func.id in walks:
                self.assertIn(id(node), fine, where)

    def test_what_the_program_does_without(self):
        # Rules L13, L19, L21, L22 and L24 bound these; without them nothing is left to bound.
        for where, node in self.each_node(ast.Try, ast.Lambda, ast.keyword, ast.AnnAssign, ast.Set):
            self.fail(f"{where}: {ast.dump(node)}")
        for where, node in self.each_node(ast.FunctionDef):
            self.assertIsNone(node.returns, where)
            self.assertTrue(all(arg.annotation is None for arg in node.args.args), where)
        for where, node in self.each_node(ast.Name):
            self.assertNotIn(node.id, ("set", "frozenset"), where)

    def test_functions_within_functions_and_classes_within_anything(self):
        for path, tree in self.trees.items():
            tops = [node for node in tree.body if isinstance(node, (ast.FunctionDef, ast.ClassDef))]
            methods = [method for node in tops if isinstance(node, ast.ClassDef) for method in node.body]
            found = [node for node in ast.walk(tree) if isinstance(node, (ast.FunctionDef, ast.ClassDef))]
            self.assertLessEqual({id(node) for node in found}, {id(node) for node in tops + methods}, path.name)

    def test_classes(self):
        methods_seen = {}
        for where, node in self.each_node(ast.ClassDef):
            self.assertTrue(all(isinstance(part, (ast.FunctionDef, ast.Pass)) for part in node.body), where)
            self.assertTrue(all(isinstance(base, ast.Name) and base.id in ERRORS for base in node.bases), where)
            self.assertLessEqual(len(node.bases), 1, where)
            methods_seen[node.name] = [method.name for method in node.body if isinstance(method, ast.FunctionDef)]
            self.assertEqual(len(methods_seen[node.name]), len(set(methods_seen[node.name])), where)
            self.assertTrue(all(name == "__init__" or PLAIN.match(name) for name in methods_seen[node.name]), where)
        called = {id(node.func) for _, node in self.each_node(ast.Call)}
        called |= {id(base) for _, node in self.each_node(ast.ClassDef) for base in node.bases}
        for where, node in self.each_node(ast.Name):
            if node.id in methods_seen:
                self.assertIn(id(node), called, f"{where}: a class is handed on")

    def test_methods_and_python_s_own_are_called_where_they_stand(self):
        methods, _ = own_methods_and_values(self.trees.values())
        called = {id(node.func) for _, node in self.each_node(ast.Call)}
        bases = {id(base) for _, node in self.each_node(ast.ClassDef) for base in node.bases}
        for where, node in self.each_node(ast.Attribute):
            if node.attr in methods | set(METHODS):
                self.assertIn(id(node), called, where)
        for where, node in self.each_node(ast.Name):
            if node.id in OWN_NAMES:
                self.assertIn(id(node), called | bases, where)

    def test_what_a_loop_walks_is_not_changed_in_it(self):
        changes = "append clear extend insert pop remove reverse setdefault update".split()
        for where, loop in self.each_node(ast.For):
            walked = {ast.unparse(node) for node in ast.walk(loop.iter) if isinstance(node, (ast.Name, ast.Attribute))}
            for node in [inner for statement in loop.body for inner in ast.walk(statement)]:
                if isinstance(node, ast.Attribute) and node.attr in changes:
                    self.assertNotIn(ast.unparse(node.value), walked, where)
                elif isinstance(node, ast.Subscript) and isinstance(node.ctx, ast.Store):
                    self.assertNotIn(ast.unparse(node.value), walked, where)


if __name__ == "__main__":
    unittest.main()
