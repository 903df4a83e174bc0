"""Rules of the subset of Python that a look at the package's own files can tell."""

import ast
import builtins
import pathlib
import unittest

import arealots

FOLDER = pathlib.Path(arealots.__file__).parent
USED = set("""len range enumerate zip min max sum abs sorted reversed int str bool bytes list tuple dict set frozenset
isinstance ord repr any all divmod pow getattr hasattr setattr iter next map type super Exception ValueError TypeError
KeyError IndexError LookupError ZeroDivisionError ArithmeticError OverflowError RuntimeError NotImplementedError
AttributeError StopIteration NotImplemented property staticmethod classmethod object float""".split())
BARRED = set("""mro elements open input law version_info with_traceback add_note typing typing_extensions enum Enum
Generic Protocol ABC ABCMeta namedtuple NamedTuple TypedDict TYPE_CHECKING abstractmethod eval exec compile dir vars
globals locals os sys gc help breakpoint delattr importlib""".split())
LIBRARY = {"heapq": {"heappush", "heappop", "heapify", "heapreplace", "heappushpop"},
           "math": {"gcd", "lcm", "isqrt", "comb", "perm", "factorial"},
           "itertools": {"product", "combinations", "permutations", "chain", "accumulate", "pairwise", "islice",
                         "zip_longest"},
           "collections": {"defaultdict", "deque"}, "__future__": {"annotations"}}
DOUBLE_UNDERSCORES = {"__init__", "__eq__", "__repr__", "__str__", "__len__", "__enter__", "__exit__", "__bool__",
                      "__getitem__", "__setitem__", "__contains__", "__iter__"}
STATEMENTS = (ast.Import, ast.ImportFrom, ast.FunctionDef, ast.ClassDef, ast.Assign)
NOT_ALLOWED = (ast.AsyncFunctionDef, ast.AsyncFor, ast.AsyncWith, ast.Await, ast.Div, ast.Import, ast.MatMult)


def bound_names(tree):
    """All names that are given a meaning in a file, with their lines."""
    for node in ast.walk(tree):
        if isinstance(node, (ast.FunctionDef, ast.ClassDef)):
            yield node.name, node.lineno
        elif isinstance(node, ast.arg):
            yield node.arg, node.lineno
        elif isinstance(node, ast.Name) and isinstance(node.ctx, ast.Store):
            yield node.id, node.lineno
        elif isinstance(node, ast.alias):
            yield node.asname or node.name, node.lineno
        elif isinstance(node, ast.ExceptHandler) and node.name:
            yield node.name, node.lineno


class LanguageTest(unittest.TestCase):
    def setUp(self):
        paths = sorted(path for path in FOLDER.rglob("*") if "__pycache__" not in path.parts)
        self.assertEqual({path.suffix for path in paths if path.is_file()}, {".py"})
        self.texts = {path.name: path.read_text(encoding="ascii") for path in paths if path.is_file()}
        self.trees = {name: ast.parse(text) for name, text in self.texts.items()}

    def none(self, found):
        self.assertEqual(list(found), [])

    def nodes(self, *kinds):
        return [(name, node) for name, tree in self.trees.items() for node in ast.walk(tree)
                if isinstance(node, kinds)]

    def test_sizes_and_signs(self):
        for name, text in self.texts.items():
            lines = text.split("\n")
            self.assertLess(len(lines), 400, name)
            self.none((name, line) for line in lines if len(line) > 120)
            self.none((name, sign) for sign in text if not (sign == "\n" or " " <= sign <= "~"))
        self.none((name, node.name) for name, node in self.nodes(ast.FunctionDef)
                  if node.end_lineno - node.lineno >= 40)

    def test_imports(self):
        for name, node in self.nodes(ast.ImportFrom):
            self.assertEqual(node.level, 0, name)
            names = {alias.name for alias in node.names}
            self.assertTrue(all(alias.asname is None for alias in node.names), name)
            if node.module.startswith("arealots."):
                file = self.trees[node.module.removeprefix("arealots.").replace(".", "/") + ".py"]
                own = {part.name for part in file.body if isinstance(part, (ast.FunctionDef, ast.ClassDef))}
                own |= {part.targets[0].id for part in file.body if isinstance(part, ast.Assign)}
                self.assertLessEqual(names, own, name)
            else:
                self.assertLessEqual(names, LIBRARY.get(node.module, set()), name)

    def test_module_level(self):
        for name, tree in self.trees.items():
            body = tree.body
            self.assertIsNotNone(ast.get_docstring(tree), name)
            self.none((name, node.lineno) for node in body[1:] if not isinstance(node, STATEMENTS))
            bound = [node.name for node in body if isinstance(node, (ast.FunctionDef, ast.ClassDef))]
            bound += [target.id for node in body if isinstance(node, ast.Assign) for target in node.targets]
            bound += [alias.name for node in body if isinstance(node, ast.ImportFrom) for alias in node.names]
            self.assertEqual(len(bound), len(set(bound)), name)

    def test_names(self):
        everything = set(dir(builtins))
        for name, tree in self.trees.items():
            self.none((name, found) for found in bound_names(tree) if found[0] in everything | BARRED)
        self.none((name, node.id) for name, node in self.nodes(ast.Name)
                  if node.id in everything - USED or node.id in BARRED)
        self.none((name, node.attr) for name, node in self.nodes(ast.Attribute) if node.attr in BARRED)

    def test_statements_and_values(self):
        self.none((name, node.lineno) for name, node in self.nodes(*NOT_ALLOWED))
        for name, node in self.nodes(ast.Constant):
            self.assertNotIsInstance(node.value, (float, complex), name)
            self.assertFalse(isinstance(node.value, str) and "%" in node.value, name)
        for name, node in self.nodes(ast.BinOp):
            if isinstance(node.op, ast.Pow):
                self.assertTrue(isinstance(node.right, ast.Constant) and 0 <= node.right.value <= 64, name)
        for name, node in self.nodes(ast.FunctionDef):
            told = {ast.unparse(decorator).partition(".")[2] or ast.unparse(decorator)
                    for decorator in node.decorator_list}
            self.assertLessEqual(told, {"property", "setter", "staticmethod", "classmethod"}, name)

    def test_classes(self):
        for name, node in self.nodes(ast.ClassDef):
            self.assertEqual(node.decorator_list, [], name)
            self.assertLessEqual({type(part) for part in node.body}, {ast.Expr, ast.FunctionDef}, name)
            methods = [part for part in node.body if isinstance(part, ast.FunctionDef)]
            self.assertEqual(len(methods), len({method.name for method in methods}), name)
            told = {method.name: method for method in methods if method.name.startswith("__")}
            self.assertLessEqual(set(told), DOUBLE_UNDERSCORES, name)
            if "__eq__" in told:
                self.assertRegex(ast.unparse(told["__eq__"].body[0]), f"^return type.other. is {node.name} and ")
            if "__len__" in told:
                self.assertRegex(ast.unparse(told["__len__"].body[-1]), "^return len")
            if "__exit__" in told:
                self.none((name, part.lineno) for part in ast.walk(told["__exit__"])
                          if isinstance(part, (ast.Call, ast.Subscript, ast.BinOp, ast.Compare, ast.Return))
                          and ast.unparse(part) not in ("kind is None", "kind is not None"))
            if "__getitem__" in told:
                self.assertRegex(ast.unparse(told["__iter__"].body), "^raise TypeError")

    def test_all_and_any_take_lists(self):
        self.none((name, node.lineno) for name, node in self.nodes(ast.GeneratorExp, ast.Yield, ast.YieldFrom))

    def test_is_only_where_it_is_plain(self):
        for name, node in self.nodes(ast.Compare):
            for sign, side in zip(node.ops, node.comparators):
                if isinstance(sign, (ast.Is, ast.IsNot)):
                    plain = isinstance(side, ast.Constant) and side.value in (None, True, False)
                    self.assertTrue(plain or ast.unparse(node.left) in ("self", "type(other)", "type(value)"), name)

    def test_words_that_stand_nowhere_beside_items(self):
        for name, text in self.texts.items():
            self.none((name, word) for word in ("(type)", "Meta", "metaclass=") if word in text)

    def test_handlers_name_own_errors(self):
        errors = {part.name for part in self.trees["errors.py"].body if isinstance(part, ast.ClassDef)}
        for name, node in self.nodes(ast.ExceptHandler):
            self.assertIn(ast.unparse(node.type), errors, name)


if __name__ == "__main__":
    unittest.main()
