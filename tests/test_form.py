"""Checks the form of the code: those rules of shared/LANGUAGE.md that a short test can see."""

import ast
import builtins
import pathlib
import re
import unittest

ROOT = pathlib.Path(__file__).resolve().parent.parent / "allstitches"
FILES = sorted(path for path in ROOT.rglob("*") if path.is_file() and "__pycache__" not in path.parts)

LIBRARY = {
    "math": {"gcd", "lcm", "isqrt", "comb", "perm", "factorial"},
    "heapq": {"heappush", "heappop", "heapify", "heapreplace", "heappushpop"},
    "itertools": {"product", "combinations", "permutations", "chain", "accumulate", "pairwise", "islice",
                  "zip_longest"},
    "collections": {"defaultdict", "deque"},
}
BUILTINS = set("""
    len range enumerate zip min max sum abs sorted reversed int str bool list tuple dict set isinstance ord repr any
    all divmod pow map iter next type getattr hasattr setattr property staticmethod classmethod super NotImplemented
    Exception ValueError TypeError KeyError IndexError LookupError ZeroDivisionError ArithmeticError OverflowError
    RuntimeError NotImplementedError StopIteration
""".split())
METHODS = set("""
    append clear copy count endswith extend find get index insert isalnum isalpha isdigit islower isspace isupper items
    join keys ljust lower lstrip partition pop remove replace reverse rfind rjust rpartition rsplit rstrip setdefault
    split splitlines startswith strip update upper values zfill bit_length title capitalize swapcase casefold center
    removeprefix removesuffix rindex isascii isdecimal format add discard popleft appendleft
""".split())
DUNDERS = set("""
    __init__ __eq__ __repr__ __str__ __len__ __enter__ __exit__ __call__ __iter__ __lt__ __le__ __gt__ __ge__ __ne__
    __add__ __sub__ __mul__ __and__ __or__ __xor__ __neg__ __invert__ __abs__ __bool__ __contains__ __getitem__
    __setitem__
""".split())
NOT_USED = (ast.AsyncFunctionDef, ast.AsyncFor, ast.AsyncWith, ast.Await, ast.Global, ast.Div, ast.MatMult,
            ast.Import)
NO_NAMES = set("register mro elements open input law compile copyright dir eval exec exit globals help id license "
               "locals quit vars sys os".split())


def parsed(path):
    return ast.parse(path.read_text(encoding="utf-8"), str(path))


def functions(tree):
    return [node for node in ast.walk(tree) if isinstance(node, ast.FunctionDef)]


def bound_names(tree):
    """All names that a file binds: assigned ones, parameters, functions and classes."""
    for node in ast.walk(tree):
        if isinstance(node, ast.Name) and not isinstance(node.ctx, ast.Load):
            yield node.id
        elif isinstance(node, ast.arg):
            yield node.arg
        elif isinstance(node, ast.ClassDef):
            yield node.name
    for node in tree.body:
        if isinstance(node, ast.FunctionDef):
            yield node.name


class TestForm(unittest.TestCase):
    def test_files(self):
        self.assertTrue(FILES)
        for path in FILES:
            self.assertRegex(path.name, r"^(__init__|[a-z][a-z0-9_]*)\.py$")
            self.assertEqual(path.parent, ROOT)

    def test_sizes(self):
        for path in FILES:
            text = path.read_text(encoding="utf-8")
            self.assertLessEqual(text.count("\n"), 399, path)
            self.assertTrue(all(len(line) <= 120 for line in text.split("\n")), path)
            self.assertIsNone(re.search(r"[^ -~\n]", text), path)
            for node in functions(parsed(path)):
                self.assertLessEqual(node.end_lineno - node.lineno + 1, 40, (path, node.name))

    def test_module_level(self):
        for path in FILES:
            for node in parsed(path).body:
                right = isinstance(node, (ast.ImportFrom, ast.FunctionDef, ast.ClassDef, ast.Assign))
                docstring = isinstance(node, ast.Expr) and isinstance(node.value, ast.Constant)
                self.assertTrue(right or docstring, (path, node.lineno))

    def test_names_of_modules_have_plain_values(self):
        for path in FILES:
            above = set()
            for node in parsed(path).body:
                if isinstance(node, ast.FunctionDef):
                    above.add(node.name)
                if isinstance(node, ast.Assign):
                    self.assertEqual(len(node.targets), 1, path)
                    for value in node.value.values if isinstance(node.value, ast.Dict) else [node.value]:
                        # A dict may have functions that are defined above.
                        if not isinstance(value, ast.Name) or value.id not in above:
                            ast.literal_eval(value)

    def test_functions_in_dicts_are_given_a_name_before_they_are_called(self):
        for path in FILES:
            for node in ast.walk(parsed(path)):
                if isinstance(node, ast.Call):
                    self.assertIsInstance(node.func, (ast.Name, ast.Attribute), (path, node.lineno))

    def test_generators_and_context_managers(self):
        # The names of generators are those of no other functions, and no variable is called that has one.
        names = [node.name for path in FILES for node in functions(parsed(path))]
        for path in FILES:
            for node in functions(parsed(path)):
                if any(isinstance(one, (ast.Yield, ast.YieldFrom)) for one in ast.walk(node)):
                    self.assertEqual(names.count(node.name), 1, path)
                if node.name == "__exit__":
                    self.check_exit(path, node)

    def check_exit(self, path, node):
        """Only names are assigned to attributes, for an error or none, and nothing is called."""
        self.assertFalse([one for one in ast.walk(node) if isinstance(one, (ast.Call, ast.BinOp, ast.Return))], path)
        tests = [ast.unparse(one.test) for one in ast.walk(node) if isinstance(one, ast.If)]
        self.assertLessEqual(set(tests), {"kind is None", "kind is not None"}, path)

    def test_imports(self):
        for path in FILES:
            for node in ast.walk(parsed(path)):
                if isinstance(node, ast.ImportFrom):
                    self.check_import(path, node)

    def check_import(self, path, node):
        self.assertEqual(node.level, 0, path)
        names = {alias.name for alias in node.names}
        self.assertTrue(all(alias.asname is None for alias in node.names), path)
        if node.module in LIBRARY:
            self.assertLessEqual(names, LIBRARY[node.module], path)
            return
        self.assertRegex(node.module, r"^allstitches\.[a-z_]+$")
        source = parsed(ROOT / (node.module.split(".")[1] + ".py"))
        defined = {one.name for one in source.body if isinstance(one, (ast.FunctionDef, ast.ClassDef))}
        defined |= {one.targets[0].id for one in source.body if isinstance(one, ast.Assign)}
        self.assertLessEqual(names, defined, (path, "a name is imported from the file that defines it"))

    def test_no_files_import_each_other(self):
        needs = {path.stem: {node.module.split(".")[1] for node in ast.walk(parsed(path))
                             if isinstance(node, ast.ImportFrom) and node.module.startswith("allstitches")}
                 for path in FILES}
        while needs:
            free = [name for name in needs if not needs[name] & set(needs)]
            self.assertTrue(free, needs)
            for name in free:
                del needs[name]

    def test_statements_and_values(self):
        for path in FILES:
            for node in ast.walk(parsed(path)):
                self.assertNotIsInstance(node, NOT_USED, (path, getattr(node, "lineno", None)))
                if isinstance(node, ast.Constant):
                    self.assertNotIsInstance(node.value, (float, complex), (path, node.lineno))
                    self.assertFalse(isinstance(node.value, str) and "%" in node.value, (path, node.lineno))
                if isinstance(node, ast.ExceptHandler):
                    self.assertIsNotNone(node.type, (path, node.lineno))

    def test_names(self):
        allowed_builtins = {name for name in vars(builtins)} - BUILTINS
        for path in FILES:
            tree = parsed(path)
            for name in bound_names(tree):
                self.assertRegex(name, r"^(_|_?[A-Za-z][A-Za-z0-9_]*)$")
                self.assertFalse(hasattr(builtins, name), (path, name))
                self.assertNotIn(name, NO_NAMES, path)
            for node in ast.walk(tree):
                if isinstance(node, ast.Name):
                    self.assertNotIn(node.id, allowed_builtins, (path, node.lineno))
                if isinstance(node, ast.FunctionDef) and node.name.startswith("__"):
                    self.assertIn(node.name, DUNDERS, path)

    def test_no_local_name_is_that_of_a_class_or_an_import(self):
        for path in FILES:
            tree = parsed(path)
            taken = {node.name for node in tree.body if isinstance(node, ast.ClassDef)}
            taken |= {alias.name for node in tree.body if isinstance(node, ast.ImportFrom) for alias in node.names}
            for function in functions(tree):
                for node in ast.walk(function):
                    if isinstance(node, ast.arg):
                        self.assertNotIn(node.arg, taken, (path, function.name))
                    if isinstance(node, ast.Name) and isinstance(node.ctx, ast.Store):
                        self.assertNotIn(node.id, taken, (path, function.name))

    def test_methods_that_are_called(self):
        own = {node.name for path in FILES for node in functions(parsed(path))}
        for path in FILES:
            for node in ast.walk(parsed(path)):
                if isinstance(node, ast.Call) and isinstance(node.func, ast.Attribute):
                    self.assertIn(node.func.attr, METHODS | own, (path, node.lineno))

    def test_lists_instead_of_generator_expressions(self):
        # Sizes has an __eq__: any, all, min, max, sum and sorted take a list.
        for path in FILES:
            for node in ast.walk(parsed(path)):
                self.assertNotIsInstance(node, ast.GeneratorExp, (path, getattr(node, "lineno", None)))

    def test_no_annotations_and_no_decorators_but_those_of_methods(self):
        for path in FILES:
            for node in functions(parsed(path)):
                names = [one.id for one in node.decorator_list if isinstance(one, ast.Name)]
                self.assertLessEqual(set(names), {"property", "staticmethod", "classmethod"}, path)
                self.assertEqual(len(names), len(node.decorator_list))


if __name__ == "__main__":
    unittest.main()
