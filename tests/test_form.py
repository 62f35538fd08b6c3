"""The form of the package: what the language rules bar and a reading of the files shows."""

import ast
import builtins
import pathlib
import unittest

PACKAGE = pathlib.Path(__file__).resolve().parent.parent / "rungfields"
LIBRARY = {
    "heapq": {"heappush", "heappop", "heapify", "heapreplace", "heappushpop"},
    "math": {"gcd", "lcm", "isqrt", "comb", "perm", "factorial"},
    "itertools": {"product", "combinations", "permutations"},
    "__future__": {"annotations"},
}
BUILTINS = set(
    "len range enumerate zip min max sum abs sorted reversed int str bool bytes list tuple dict set"
    " frozenset isinstance ord repr any all divmod iter next map super"
    " property staticmethod classmethod Exception ValueError TypeError KeyError IndexError"
    " LookupError ZeroDivisionError ArithmeticError OverflowError RuntimeError NotImplementedError"
    " AttributeError StopIteration NotImplemented".split()
)
MAGIC = set(
    "__init__ __eq__ __repr__ __str__ __len__ __enter__ __exit__ __call__ __iter__ __bool__"
    " __contains__ __getitem__ __setitem__".split()
)
NOT_ALLOWED = (
    ast.Global, ast.AsyncFunctionDef, ast.AsyncFor, ast.AsyncWith, ast.Await, ast.Div,
    ast.GeneratorExp, ast.Import, ast.MatMult,
)
BARRED_WORDS = set(
    "typing typing_extensions enum Enum dataclass overload contextmanager namedtuple NamedTuple"
    " TypedDict abstractmethod eval exec getattr setattr delattr hasattr vars dir globals locals"
    " open input register elements mro law".split()
)
FUNCTIONS = (ast.FunctionDef, ast.Lambda)


def files():
    return sorted(path for path in PACKAGE.rglob("*") if "__pycache__" not in path.parts)


def names(tree):
    """All names that a file gives to something or reads."""
    for node in ast.walk(tree):
        for field in ("id", "name", "arg", "attr", "asname"):
            name = getattr(node, field, None)
            if isinstance(name, str):
                yield name


class Form(unittest.TestCase):
    def each(self):
        for path in files():
            text = path.read_text(encoding="utf-8")
            yield path, text, ast.parse(text)

    def test_only_python_files(self):
        for path in files():
            self.assertTrue(path.suffix == ".py" and path.name.islower(), path)

    def test_characters_and_sizes(self):
        for path, text, tree in self.each():
            self.assertTrue(all(sign == "\n" or " " <= sign <= "~" for sign in text), path)
            lines = text.splitlines()
            self.assertLess(len(lines), 400, path)
            self.assertLessEqual(max(map(len, lines)), 120, path)
            for node in ast.walk(tree):
                if isinstance(node, ast.FunctionDef):
                    self.assertLessEqual(node.end_lineno - node.lineno + 1, 40, node.name)

    def test_imports(self):
        for path, _, tree in self.each():
            for node in ast.walk(tree):
                if not isinstance(node, ast.ImportFrom):
                    continue
                told = {alias.name for alias in node.names}
                self.assertEqual(node.level, 0, path)
                if node.module.startswith("rungfields."):
                    source = PACKAGE / (node.module.split(".")[1] + ".py")
                    self.assertLessEqual(told, self.made(source), path)
                else:
                    self.assertLessEqual(told, LIBRARY.get(node.module, set()), path)

    def made(self, path):
        """The names that a file binds itself at module level."""
        told = set()
        for node in ast.parse(path.read_text(encoding="utf-8")).body:
            if isinstance(node, (ast.FunctionDef, ast.ClassDef)):
                told.add(node.name)
            elif isinstance(node, ast.Assign):
                told.update(target.id for target in node.targets)
        return told

    def test_no_two_files_import_from_each_other(self):
        sources = {}
        for path, _, tree in self.each():
            own = {node.module for node in ast.walk(tree) if isinstance(node, ast.ImportFrom)}
            sources[f"rungfields.{path.stem}"] = own & {f"rungfields.{p.stem}" for p in files()}
        while sources:
            free = [name for name, own in sources.items() if not own & set(sources)]
            self.assertTrue(free, f"a ring among {sorted(sources)}")
            for name in free:
                del sources[name]

    def test_module_level(self):
        for path, _, tree in self.each():
            for node in tree.body:
                docstring = isinstance(node, ast.Expr) and isinstance(node.value, ast.Constant)
                kinds = (ast.ImportFrom, ast.FunctionDef, ast.ClassDef, ast.Assign)
                self.assertTrue(docstring or isinstance(node, kinds), (path, ast.dump(node)))

    def test_what_is_not_allowed(self):
        for path, _, tree in self.each():
            for node in ast.walk(tree):
                self.assertNotIsInstance(node, NOT_ALLOWED, path)
                if isinstance(node, ast.Constant):
                    self.assertNotIsInstance(node.value, float, path)
                    if isinstance(node.value, str):
                        self.assertNotIn("%", node.value, path)

    def test_powers_have_literal_exponents(self):
        for path, _, tree in self.each():
            for node in ast.walk(tree):
                if isinstance(node, ast.BinOp) and isinstance(node.op, ast.Pow):
                    self.assertIsInstance(node.right, ast.Constant, path)
                    self.assertIn(node.right.value, range(65), path)

    def test_no_name_is_both_method_and_attribute(self):
        for path, _, tree in self.each():
            for told in ast.walk(tree):
                if isinstance(told, ast.ClassDef):
                    methods = {node.name for node in told.body if isinstance(node, ast.FunctionDef)}
                    attributes = {
                        node.attr for node in ast.walk(told)
                        if isinstance(node, ast.Attribute) and isinstance(node.ctx, ast.Store)
                    }
                    self.assertFalse(methods & attributes, (path, told.name))

    def test_what_len_and_the_texts_return(self):
        kinds = (ast.Call, ast.Constant, ast.JoinedStr)
        for path, _, tree in self.each():
            for node in ast.walk(tree):
                if isinstance(node, ast.FunctionDef) and node.name in ("__len__", "__repr__", "__str__"):
                    self.assertIsInstance(node.body[-1], ast.Return, path)
                    value = node.body[-1].value
                    self.assertIsInstance(value, kinds, path)
                    if isinstance(value, ast.Call) and isinstance(value.func, ast.Name):
                        self.assertIn(value.func.id, ("len", "str", "repr"), path)

    def test_len_equality_and_the_texts_assign_nothing(self):
        barred = (ast.Assign, ast.AugAssign, ast.AnnAssign, ast.NamedExpr, ast.Delete)
        for path, _, tree in self.each():
            for node in ast.walk(tree):
                if isinstance(node, ast.FunctionDef) and node.name in ("__eq__", "__len__", "__repr__", "__str__"):
                    for part in ast.walk(node):
                        self.assertNotIsInstance(part, barred, (path, node.name))

    def test_names(self):
        for path, _, tree in self.each():
            for name in names(tree):
                self.assertNotIn(name, BARRED_WORDS, path)
                if name.startswith("__"):
                    self.assertIn(name, MAGIC | {"__class__", "__name__"}, path)
                elif name in vars(builtins):
                    self.assertIn(name, BUILTINS, path)

    def test_no_builtin_is_given_another_meaning(self):
        for path, _, tree in self.each():
            for node in ast.walk(tree):
                bound = None
                if isinstance(node, (ast.FunctionDef, ast.ClassDef)):
                    bound = node.name
                elif isinstance(node, ast.Name) and isinstance(node.ctx, ast.Store):
                    bound = node.id
                elif isinstance(node, ast.arg):
                    bound = node.arg
                if bound is not None and not bound.startswith("__"):
                    self.assertNotIn(bound, vars(builtins), path)

    def test_locals_do_not_hide_imports_and_classes(self):
        for path, _, tree in self.each():
            top = {alias.name for node in tree.body if isinstance(node, ast.ImportFrom)
                   for alias in node.names}
            top |= {node.name for node in tree.body if isinstance(node, ast.ClassDef)}
            for part in ast.walk(tree):
                if isinstance(part, FUNCTIONS):
                    for node in ast.walk(part):
                        if isinstance(node, ast.Name) and isinstance(node.ctx, ast.Store):
                            self.assertNotIn(node.id, top, path)
                        elif isinstance(node, ast.arg):
                            self.assertNotIn(node.arg, top, path)


if __name__ == "__main__":
    unittest.main()
