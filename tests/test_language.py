"""Those rules of the language subset that a walk through the package's trees can see (L1 to L3, L5, L7, L8, ..)."""

import ast
import builtins
import pathlib
import re
import unittest

PACKAGE = pathlib.Path(__file__).resolve().parent.parent / "putoffpiles"
BUILTINS = set(
    "len range enumerate zip min max sum abs sorted reversed int str bool bytes list tuple dict set frozenset isinstance"
    " ord repr any all divmod pow getattr hasattr setattr iter next map type super property staticmethod classmethod"
    " Exception ValueError TypeError KeyError IndexError LookupError ZeroDivisionError ArithmeticError OverflowError"
    " RuntimeError NotImplementedError AttributeError StopIteration NotImplemented".split())
METHODS = set(
    "append clear copy count endswith extend find get index insert isalnum isalpha isdigit islower isspace isupper items"
    " join keys ljust lower lstrip partition pop remove replace reverse rfind rjust rpartition rsplit rstrip setdefault"
    " split splitlines startswith strip update upper values zfill bit_length sort format popleft appendleft removeprefix".split())
DOUBLE_UNDERSCORES = set("__init__ __eq__ __repr__ __str__ __len__ __enter__ __exit__ __call__ __iter__".split())
BARRED_WORDS = set(
    "register mro elements open input law version_info with_traceback add_note breakpoint builtins compile delattr dir"
    " eval exec exit gc globals help id importlib locals os quit vars sys typing enum dataclass namedtuple".split())
BARRED_ATTRIBUTES = set(
    "items keys values pop update append clear extend insert remove reverse setdefault sort args encode decode hex"
    " fromhex format format_map mro".split())
LIBRARY = {"itertools": {"combinations"}, "heapq": {"heappush", "heappop"}}
BARRED_NODES = (ast.AsyncFunctionDef, ast.AsyncFor, ast.AsyncWith, ast.Await, ast.Div)
SETS = (ast.Set, ast.SetComp)


def files():
    return sorted(path for path in PACKAGE.rglob("*") if path.is_file() and "__pycache__" not in path.parts)


def trees():
    return {path.stem: ast.parse(path.read_text()) for path in files()}


def walk(kind):
    for name, tree in trees().items():
        for node in ast.walk(tree):
            if isinstance(node, kind):
                yield f"{name}:{getattr(node, 'lineno', 0)}", node


def names_at_the_top(tree):
    found = {node.name for node in tree.body if isinstance(node, (ast.FunctionDef, ast.ClassDef))}
    return found | {node.targets[0].id for node in tree.body if isinstance(node, ast.Assign)}


def called(node):
    return node.func.id if isinstance(node, ast.Call) and isinstance(node.func, ast.Name) else None


class Language(unittest.TestCase):
    def test_files_and_characters(self):
        for path in files():
            text = path.read_text()
            self.assertRegex(path.name, r"\A[a-z0-9_]+\.py\Z")
            self.assertRegex(text, r"\A[ -~\n]*\Z", path.name)
            self.assertLessEqual(len(text.splitlines()), 399, path.name)
            self.assertLessEqual(max(map(len, text.splitlines())), 120, path.name)

    def test_functions_are_small(self):
        for at, node in walk(ast.FunctionDef):
            self.assertLessEqual(node.end_lineno - node.lineno + 1, 40, at)
            self.assertEqual(node.decorator_list, [], at)
            self.assertIsNotNone(ast.get_docstring(node) or node.name.startswith("__") or None, at)

    def test_imports_name_the_file_that_defines_the_name(self):
        defined = {name: names_at_the_top(tree) for name, tree in trees().items()}
        for at, node in walk((ast.Import, ast.ImportFrom)):
            self.assertIsInstance(node, ast.ImportFrom, at)
            if node.module in LIBRARY:
                self.assertLessEqual({alias.name for alias in node.names}, LIBRARY[node.module], at)
                continue
            self.assertEqual((node.level, node.module.split(".")[0]), (0, "putoffpiles"), at)
            for alias in node.names:
                self.assertIsNone(alias.asname, at)
                self.assertIn(alias.name, defined[node.module.split(".")[1]], at)

    def test_no_two_files_import_from_each_other(self):
        leads = {name: {node.module.split(".")[1] for node in ast.walk(tree)
                        if isinstance(node, ast.ImportFrom) and node.module not in LIBRARY}
                 for name, tree in trees().items()}
        while leads:
            free = [name for name in leads if not leads[name] & set(leads)]
            self.assertNotEqual(free, [], leads)
            for name in free:
                del leads[name]

    def test_module_level(self):
        for name, tree in trees().items():
            for node in tree.body:
                if isinstance(node, ast.Expr):
                    self.assertIs(node, tree.body[0], name)
                    self.assertIsInstance(node.value.value, str, name)
                else:
                    self.assertIsInstance(node, (ast.ImportFrom, ast.FunctionDef, ast.ClassDef, ast.Assign), name)

    def test_nodes_that_are_barred(self):
        for at, node in walk(BARRED_NODES):
            self.fail(f"{at}: {type(node).__name__}")
        for at, node in walk(ast.Constant):
            self.assertNotIsInstance(node.value, (float, complex), at)
            self.assertFalse(isinstance(node.value, str) and "%" in node.value, at)

    def test_builtins(self):
        for at, node in walk(ast.Name):
            if node.id in dir(builtins):
                self.assertIn(node.id, BUILTINS, at)
                self.assertIsInstance(node.ctx, ast.Load, at)
        for at, node in walk(ast.Call):
            if called(node) == "isinstance":
                self.assertEqual(len(node.args), 2, at)

    def test_no_own_name_is_that_of_a_builtin_or_of_an_import_or_barred(self):
        for name, tree in trees().items():
            taken = set(dir(builtins)) | BARRED_WORDS
            for node in ast.walk(tree):
                if isinstance(node, ast.ImportFrom):
                    taken |= {alias.name for alias in node.names}
                elif isinstance(node, ast.ClassDef):
                    taken.add(node.name)
            for node in ast.walk(tree):
                if isinstance(node, ast.arg):
                    self.assertNotIn(node.arg, taken, f"{name}:{node.lineno}")
                elif isinstance(node, ast.Name) and isinstance(node.ctx, ast.Store):
                    self.assertNotIn(node.id, taken, f"{name}:{node.lineno}")
                    self.assertTrue(re.fullmatch(r"_|_?[A-Za-z][A-Za-z0-9_]*", node.id), f"{name}:{node.lineno}")
                elif isinstance(node, ast.FunctionDef):
                    self.assertNotIn(node.name, BARRED_WORDS, f"{name}:{node.lineno}")

    def test_methods_and_attributes(self):
        own = {node.name for _, node in walk(ast.FunctionDef)}
        for at, node in walk(ast.Call):
            if isinstance(node.func, ast.Attribute):
                self.assertIn(node.func.attr, METHODS | own, at)
        for at, node in walk(ast.Attribute):
            if isinstance(node.ctx, ast.Store):
                self.assertNotIn(node.attr, BARRED_ATTRIBUTES | BARRED_WORDS, at)

    def test_classes(self):
        for at, node in walk(ast.ClassDef):
            self.assertEqual((node.decorator_list, node.keywords), ([], []), at)
            methods = [each.name for each in node.body if isinstance(each, ast.FunctionDef)]
            stored = {each.attr for each in ast.walk(node)
                      if isinstance(each, ast.Attribute) and isinstance(each.ctx, ast.Store)}
            self.assertEqual(len(methods), len(set(methods)), at)
            self.assertEqual(stored & set(methods), set(), at)
            for name in methods:
                self.assertTrue(not name.startswith("__") or name in DOUBLE_UNDERSCORES, at)

    def test_generator_expressions_where_a_class_compares(self):
        for at, node in walk(ast.Call):
            if called(node) in ("any", "all", "min", "max", "sum", "sorted"):
                self.assertFalse([arg for arg in node.args if isinstance(arg, ast.GeneratorExp)], at)

    def test_sets_are_not_iterated(self):
        good = set()
        for _, node in walk(ast.Call):
            if called(node) in ("sorted", "len"):
                good |= {ast.dump(arg, include_attributes=True) for arg in node.args}
        for at, node in walk(SETS + (ast.Call,)):
            if isinstance(node, SETS) or called(node) in ("set", "frozenset"):
                self.assertIn(ast.dump(node, include_attributes=True), good, at)

    def test_is_stands_beside_none_and_flags(self):
        for at, node in walk(ast.Compare):
            if isinstance(node.ops[0], (ast.Is, ast.IsNot)):
                self.assertIsInstance(node.comparators[0], ast.Constant, at)

    def test_a_name_is_a_method_or_an_attribute(self):
        methods = {each.name for _, node in walk(ast.ClassDef) for each in node.body if isinstance(each, ast.FunctionDef)}
        stored = {node.attr for _, node in walk(ast.Attribute) if isinstance(node.ctx, ast.Store)}
        # The interface itself has runs' place() and the place of BadProgram.
        self.assertEqual(methods & stored, {"place"})

    def test_one_lambda_in_a_line(self):
        found = [(at, tuple(arg.arg for arg in node.args.args)) for at, node in walk(ast.Lambda)]
        self.assertEqual(len(found), len(set(found)))

    def test_handlers_and_raises_name_their_errors(self):
        for at, node in walk(ast.ExceptHandler):
            self.assertIsNotNone(node.type, at)
        for at, node in walk(ast.Raise):
            self.assertTrue(node.exc is None or called(node.exc), at)


if __name__ == "__main__":
    unittest.main()
