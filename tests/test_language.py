"""The rules of the language for the package that can be read off its files."""

import ast
import re
import unittest
import warnings
from pathlib import Path

PACKAGE = Path(__file__).resolve().parent.parent / "onetrain"

LIBRARY = {
    "heapq": {"heappush", "heappop", "heapify", "heapreplace", "heappushpop"},
    "math": {"gcd", "lcm", "isqrt", "comb", "perm", "factorial"},
    "itertools": {"product", "combinations", "permutations", "chain", "accumulate", "pairwise", "islice",
                  "zip_longest"},
    "collections": {"defaultdict"},
    "__future__": {"annotations"},
}

# L8, less `chr`, which L27 removes, and `print`, which only `__main__.py` calls.
BUILTINS = set("""
    len range enumerate zip min max sum abs sorted reversed int str bool bytes list tuple dict set frozenset
    isinstance ord repr any all divmod pow getattr hasattr setattr iter next map super object
    Exception ValueError TypeError KeyError IndexError LookupError ZeroDivisionError ArithmeticError OverflowError
    RuntimeError NotImplementedError AttributeError StopIteration NotImplemented property staticmethod classmethod
""".split())

SPECIAL = set("""
    __init__ __eq__ __repr__ __str__ __len__ __enter__ __exit__ __call__ __iter__ __lt__ __le__ __gt__ __ge__ __ne__
    __add__ __sub__ __mul__ __floordiv__ __mod__ __pow__ __and__ __or__ __xor__ __lshift__ __rshift__ __radd__
    __rsub__ __rmul__ __rfloordiv__ __rmod__ __rand__ __ror__ __rxor__ __rlshift__ __rrshift__ __iadd__ __isub__
    __imul__ __ifloordiv__ __imod__ __ipow__ __iand__ __ior__ __ixor__ __ilshift__ __irshift__ __neg__ __pos__
    __invert__ __abs__ __bool__ __contains__ __getitem__ __setitem__
""".split())

METHODS = set("""
    append clear copy count endswith extend find get index insert isalnum isalpha isdigit islower isspace isupper items
    join keys ljust lower lstrip partition pop remove replace reverse rfind rjust rpartition rsplit rstrip setdefault
    split splitlines startswith strip update upper values zfill bit_length
""".split())

STATEMENTS = (
    ast.FunctionDef, ast.ClassDef, ast.Import, ast.ImportFrom, ast.Assign, ast.AugAssign, ast.AnnAssign, ast.If,
    ast.While, ast.For, ast.Return, ast.Break, ast.Continue, ast.Pass, ast.Raise, ast.Assert, ast.Delete,
    ast.Nonlocal, ast.Match, ast.With, ast.Try, ast.Expr,
)

NEVER_A_NAME = {"register", "mro", "elements", "open", "input", "law", "version_info", "with_traceback", "add_note"}


def files():
    return sorted(PACKAGE.rglob("*.py"))


def parsed():
    return [(path, ast.parse(path.read_text(encoding="utf-8"))) for path in files()]


def nodes():
    return [(f"{path.name}:{getattr(node, 'lineno', 0)}", node) for path, tree in parsed() for node in ast.walk(tree)]


def bound_names(tree):
    for node in ast.walk(tree):
        if isinstance(node, ast.Name) and not isinstance(node.ctx, ast.Load):
            yield node.id
        elif isinstance(node, (ast.FunctionDef, ast.ClassDef)):
            yield node.name
        elif isinstance(node, ast.arg):
            yield node.arg


class Files(unittest.TestCase):
    def test_the_folder_contains_plain_python_files_only(self):
        for path in PACKAGE.rglob("*"):
            if "__pycache__" not in path.parts and path.is_file():
                self.assertRegex(path.name, r"^[a-z_][a-z0-9_]*\.py$")
        self.assertTrue((PACKAGE / "__init__.py").is_file())

    def test_characters(self):
        for path in files():
            self.assertRegex(path.read_text(encoding="utf-8"), r"\A[ -~\n]*\Z", path)

    def test_sizes_of_files_and_lines(self):
        for path in files():
            lines = path.read_text(encoding="utf-8").split("\n")
            self.assertLessEqual(len(lines), 399, path)
            self.assertLessEqual(max(len(line) for line in lines), 120, path)

    def test_python_gives_no_warning(self):
        for path in files():
            with warnings.catch_warnings():
                warnings.simplefilter("error")
                compile(path.read_text(encoding="utf-8"), str(path), "exec")


class Modules(unittest.TestCase):
    def test_imports(self):
        for where, node in nodes():
            if isinstance(node, ast.Import):
                self.assertEqual([name.name for name in node.names], ["sys"], where)
                self.assertTrue(where.startswith("__main__.py"), where)
            elif isinstance(node, ast.ImportFrom):
                self.assertEqual(node.level, 0, where)
                self.assertTrue(all(name.asname is None for name in node.names), where)
                if not node.module.startswith("onetrain."):
                    self.assertLessEqual({name.name for name in node.names}, LIBRARY.get(node.module, set()), where)

    def test_imports_name_the_file_that_defines_the_name(self):
        defined = {
            "onetrain." + path.stem: {
                name.id if isinstance(name, ast.Name) else name.name
                for node in tree.body
                for name in (node.targets if isinstance(node, ast.Assign) else [node])
                if isinstance(name, (ast.Name, ast.FunctionDef, ast.ClassDef))
            }
            for path, tree in parsed()
        }
        for where, node in nodes():
            if isinstance(node, ast.ImportFrom) and node.module in defined:
                self.assertLessEqual({name.name for name in node.names}, defined[node.module], where)

    def test_no_two_files_import_from_each_other(self):
        imported = {
            "onetrain." + path.stem: [node.module for node in tree.body if isinstance(node, ast.ImportFrom)]
            for path, tree in parsed()
        }
        done = []
        while len(done) < len(imported):
            ready = [name for name, needed in imported.items()
                     if name not in done and not set(needed) & set(imported) - set(done)]
            self.assertTrue(ready, sorted(set(imported) - set(done)))
            done.extend(ready)

    def test_tables_contain_no_lists_and_no_dicts(self):
        for path, tree in parsed():
            for node in tree.body:
                if isinstance(node, ast.Assign):
                    for inner in ast.walk(node.value):
                        if inner is not node.value:
                            self.assertNotIsInstance(inner, (ast.List, ast.Dict, ast.Set), (path.name, node.lineno))

    def test_module_level(self):
        for path, tree in parsed():
            if path.name != "__main__.py":
                for node in tree.body:
                    is_docstring = isinstance(node, ast.Expr) and isinstance(node.value, ast.Constant)
                    is_named = isinstance(node, (ast.ImportFrom, ast.FunctionDef, ast.ClassDef, ast.Assign))
                    self.assertTrue(is_docstring or is_named, (path.name, node.lineno))

    def test_each_name_is_bound_once_at_module_level(self):
        for path, tree in parsed():
            names = []
            for node in tree.body:
                if isinstance(node, (ast.FunctionDef, ast.ClassDef)):
                    names.append(node.name)
                elif isinstance(node, ast.ImportFrom):
                    names.extend(name.name for name in node.names)
                elif isinstance(node, ast.Assign):
                    names.extend(target.id for target in node.targets)
            self.assertEqual(len(names), len(set(names)), path.name)


class Functions(unittest.TestCase):
    def test_at_most_40_lines(self):
        for where, node in nodes():
            if isinstance(node, ast.FunctionDef):
                self.assertLessEqual(node.end_lineno - node.lineno + 1, 40, where)

    def test_statements(self):
        for where, node in nodes():
            if isinstance(node, ast.stmt):
                self.assertIsInstance(node, STATEMENTS, where)

    def test_double_underscore_methods(self):
        for where, node in nodes():
            if isinstance(node, ast.FunctionDef) and node.name.startswith("__"):
                self.assertIn(node.name, SPECIAL, where)

    def test_no_float_and_no_division(self):
        for where, node in nodes():
            self.assertNotIsInstance(node, ast.Div, where)
            if isinstance(node, ast.Constant):
                self.assertNotIsInstance(node.value, (float, complex), where)

    def test_lists_instead_of_generators(self):
        for where, node in nodes():
            self.assertNotIsInstance(node, (ast.GeneratorExp, ast.Yield, ast.YieldFrom), where)

    def test_sets_are_sorted_or_measured_at_once(self):
        for where, node in nodes():
            for inner in ast.iter_child_nodes(node):
                if isinstance(inner, (ast.Set, ast.SetComp)):
                    self.assertIsInstance(node, ast.Call, where)
                    self.assertIn(node.func.id, ("sorted", "len"), where)

    def test_exponents_are_literals(self):
        for where, node in nodes():
            if isinstance(node, ast.BinOp) and isinstance(node.op, ast.Pow):
                self.assertIsInstance(node.right, ast.Constant, where)
                self.assertLessEqual(node.right.value, 64, where)

    def test_errors_are_created_where_they_are_raised(self):
        for where, node in nodes():
            if isinstance(node, ast.Raise):
                self.assertIsInstance(node.exc, ast.Call, where)
                self.assertIsInstance(node.exc.func, ast.Name, where)

    def test_own_errors_alone_are_caught(self):
        for where, node in nodes():
            if isinstance(node, ast.ExceptHandler):
                self.assertEqual(ast.unparse(node.type), "TrainError", where)

    def test_methods_of_builtin_values(self):
        own = {node.name for _, node in nodes() if isinstance(node, ast.FunctionDef)}
        for where, node in nodes():
            if isinstance(node, ast.Call) and isinstance(node.func, ast.Attribute) and node.func.attr not in own:
                self.assertIn(node.func.attr, METHODS, where)
                self.assertEqual(node.keywords, [], where)

    def test_is_stands_beside_constants_only(self):
        for where, node in nodes():
            if isinstance(node, ast.Compare):
                for sign, right in zip(node.ops, node.comparators):
                    if isinstance(sign, (ast.Is, ast.IsNot)):
                        self.assertIsInstance(right, ast.Constant, where)


class Names(unittest.TestCase):
    def test_only_the_builtins_that_are_allowed(self):
        every = set(dir(__import__("builtins")))
        for where, node in nodes():
            if isinstance(node, ast.Name) and isinstance(node.ctx, ast.Load) and node.id in every:
                self.assertIn(node.id, BUILTINS, where)

    def test_no_builtin_gets_another_meaning(self):
        every = set(dir(__import__("builtins")))
        for path, tree in parsed():
            for name in bound_names(tree):
                self.assertNotIn(name, every, path.name)

    def test_plain_names(self):
        for path, tree in parsed():
            for name in bound_names(tree):
                self.assertRegex(name, r"\A(_|_?[A-Za-z][A-Za-z0-9_]*|__[a-z]+__)\Z", path.name)
                self.assertNotIn(name, NEVER_A_NAME, path.name)
            attributes = {node.attr for node in ast.walk(tree) if isinstance(node, ast.Attribute)}
            self.assertFalse(attributes & NEVER_A_NAME, path.name)

    def test_no_variable_has_the_name_of_a_class_or_an_import(self):
        for path, tree in parsed():
            taken = set()
            for node in tree.body:
                if isinstance(node, ast.ImportFrom):
                    taken |= {name.name for name in node.names}
                elif isinstance(node, ast.ClassDef):
                    taken.add(node.name)
            for node in ast.walk(tree):
                if isinstance(node, ast.arg):
                    self.assertNotIn(node.arg, taken, path.name)
                elif isinstance(node, ast.Name) and not isinstance(node.ctx, ast.Load):
                    self.assertNotIn(node.id, taken, path.name)


    def test_no_name_is_a_method_and_an_attribute_of_one_class(self):
        for path, tree in parsed():
            for node in tree.body:
                if isinstance(node, ast.ClassDef):
                    methods = {method.name for method in node.body if isinstance(method, ast.FunctionDef)}
                    stored = {
                        inner.attr for inner in ast.walk(node)
                        if isinstance(inner, ast.Attribute) and isinstance(inner.ctx, ast.Store)
                    }
                    self.assertFalse(methods & stored, (path.name, node.name))

    def test_words_that_do_not_occur(self):
        for path, _ in parsed():
            text = path.read_text(encoding="utf-8")
            for word in ("_wall", "_WallAttr", "dataclass", "overload", "contextmanager", "global", "lambda self"):
                self.assertNotIn(word, text, path.name)


class Strings(unittest.TestCase):
    def test_no_percent_sign(self):
        for where, node in nodes():
            if isinstance(node, ast.Constant) and isinstance(node.value, str):
                self.assertNotIn(chr(37), node.value, where)

    def test_escapes(self):
        for path in files():
            for found in re.finditer(r"\\(.)", path.read_text(encoding="utf-8")):
                self.assertIn(found.group(1), "nt\\'\"", path.name)


if __name__ == "__main__":
    unittest.main()
