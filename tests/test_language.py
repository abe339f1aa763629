"""The files of the package keep to the subset of the language, as far as a look at their text can tell."""

import ast
import builtins
import io
import pathlib
import tokenize
import unittest

import closerworks

FOLDER = pathlib.Path(closerworks.__file__).parent
FILES = sorted(FOLDER.glob("*.py"))
BUILTINS = set("""len range enumerate zip min max sum abs sorted reversed int str bool list tuple dict set isinstance ord
    repr any all divmod pow True False None ValueError LookupError ArithmeticError property classmethod
    NotImplemented""".split())
BARRED = set("""type typing enum Enum Flag Generic Protocol ABC namedtuple dataclass overload contextmanager register mro
    elements open input law eval exec compile globals locals vars dir id os sys copyright credits license""".split())
ORDER = """limits errors lots closers telling comparing rules books keys sheets parts tables orders topologies convex
    peels exchange kinds riddles benches desks checker certificates console""".split()
STATEMENTS = (ast.AsyncFunctionDef, ast.AsyncFor, ast.AsyncWith, ast.Await, ast.Global, ast.GeneratorExp, ast.Yield,
              ast.YieldFrom, ast.Div, ast.AnnAssign, ast.Lambda)
DOUBLE = {"__init__", "__eq__", "__repr__", "__str__", "__len__", "__bool__", "__enter__", "__exit__"}


class Language(unittest.TestCase):

    def trees(self):
        for path in FILES:
            text = path.read_text(encoding="ascii")
            yield path, text, ast.parse(text)

    def test_the_folder_holds_files_of_python_alone(self):
        held = [path for path in FOLDER.iterdir() if path.name != "__pycache__"]
        self.assertEqual(sorted(held), FILES)
        self.assertTrue(all(path.stem in ORDER + ["__init__"] for path in FILES))
        self.assertIn(FOLDER / "__init__.py", FILES)

    def test_sizes_and_characters(self):
        for path, text, tree in self.trees():
            rows = text.splitlines()
            self.assertLessEqual(len(rows), 399, path)
            for at, row in enumerate(rows, 1):
                self.assertLessEqual(len(row), 120, (path, at))
                self.assertTrue(all(" " <= sign <= "~" for sign in row), (path, at))
                self.assertEqual(row, row.rstrip(), (path, at))
            for node in ast.walk(tree):
                if isinstance(node, ast.FunctionDef):
                    self.assertLessEqual(node.end_lineno - node.lineno + 1, 40, (path, node.name))

    def test_imports_name_modules_listed_ahead(self):
        for path, _, tree in self.trees():
            self.assertFalse([node for node in ast.walk(tree) if isinstance(node, ast.Import)], path)
            for node in ast.walk(tree):
                if isinstance(node, ast.ImportFrom):
                    self.assertIn(node, tree.body, path)
                    self.assertEqual(node.level, 0, path)
                    package, _, module = node.module.partition(".")
                    self.assertEqual(package, "closerworks", path)
                    self.assertLess(ORDER.index(module), ORDER.index(path.stem), path)
                    held = ast.parse((FOLDER / (module + ".py")).read_text(encoding="ascii")).body
                    names = {name for row in held for name in self.bound(row)}
                    self.assertLessEqual({alias.name for alias in node.names}, names, path)
                    self.assertTrue(all(alias.asname is None for alias in node.names), path)

    def bound(self, row):
        if isinstance(row, (ast.FunctionDef, ast.ClassDef)):
            return [row.name]
        return [target.id for target in row.targets] if isinstance(row, ast.Assign) else []

    def test_statements_and_decorators(self):
        for path, _, tree in self.trees():
            for node in ast.walk(tree):
                self.assertNotIsInstance(node, STATEMENTS, path)
                if isinstance(node, ast.Constant):
                    self.assertIn(type(node.value), (int, str, bool, type(None)), path)
                if isinstance(node, (ast.FunctionDef, ast.ClassDef)):
                    told = [name.id for name in node.decorator_list]
                    self.assertIn(told, ([], ["property"], ["classmethod"]), (path, node.name))
                    self.assertIsNotNone(ast.get_docstring(node) or node.name.startswith("__") or None, (path, node.name))
                    self.assertTrue(not node.name.startswith("__") or node.name in DOUBLE, (path, node.name))
                if isinstance(node, ast.Attribute):
                    self.assertFalse(node.attr.startswith("__"), (path, node.attr))

    def test_only_errors_of_the_package_are_caught(self):
        own = {row.name for row in ast.parse((FOLDER / "errors.py").read_text(encoding="ascii")).body
               if isinstance(row, ast.ClassDef)}
        for path, _, tree in self.trees():
            for node in ast.walk(tree):
                if isinstance(node, ast.Try):
                    self.assertEqual([node.orelse, node.finalbody], [[], []], (path, node.lineno))
                    for handler in node.handlers:
                        kinds = handler.type.elts if isinstance(handler.type, ast.Tuple) else [handler.type]
                        self.assertLessEqual({kind.id for kind in kinds}, own, (path, node.lineno))
                if isinstance(node, ast.Raise):
                    self.assertIn(node.exc.func.id, own, (path, node.lineno))

    def test_methods_attributes_and_properties_have_names_of_their_own(self):
        methods, properties, stored = set(), set(), set()
        for _, _, tree in self.trees():
            for node in ast.walk(tree):
                if isinstance(node, ast.ClassDef):
                    for row in node.body:
                        if isinstance(row, ast.FunctionDef):
                            told = [name.id for name in row.decorator_list]
                            (properties if told == ["property"] else methods).add(row.name)
                if isinstance(node, ast.Attribute) and isinstance(node.ctx, ast.Store):
                    self.assertIsInstance(node.value, ast.Name)
                    stored.add(node.attr)
        self.assertFalse(methods & properties or methods & stored or properties & stored)
        self.assertFalse((properties | stored) & (set(dir(str)) | set(dir(dict)) | set(dir(list)) | set(dir(int))) - {"index"})

    def test_what_an_end_of_a_trial_does(self):
        found = 0
        for path, _, tree in self.trees():
            for node in ast.walk(tree):
                if isinstance(node, ast.With):
                    self.assertEqual([ast.unparse(item) for item in node.items], ["self.trial()"], path)
                if isinstance(node, ast.FunctionDef) and node.name == "__exit__":
                    self.assertEqual([arg.arg for arg in node.args.args], ["self", "kind", "value", "trace"])
                    for part in ast.walk(node):
                        self.assertNotIsInstance(part, (ast.Call, ast.Return, ast.Subscript, ast.BinOp, ast.Raise, ast.For))
                        if isinstance(part, ast.If):
                            self.assertEqual(ast.unparse(part.test), "kind is not None")
                    found += 1
        self.assertEqual(found, 1)

    def test_tables_hold_plain_values_and_functions_above(self):
        for path, _, tree in self.trees():
            above = set()
            for row in tree.body:
                if isinstance(row, ast.FunctionDef):
                    above.add(row.name)
                if isinstance(row, ast.Assign):
                    for node in ast.walk(row.value):
                        self.assertNotIsInstance(node, (ast.Call, ast.ListComp, ast.DictComp, ast.Attribute), path)
                        if isinstance(node, ast.Name):
                            self.assertIn(node.id, above, path)

    def test_is_stands_beside_none_true_and_false_alone(self):
        for path, _, tree in self.trees():
            for node in ast.walk(tree):
                if isinstance(node, ast.Compare) and any(isinstance(sign, (ast.Is, ast.IsNot)) for sign in node.ops):
                    sides = [node.left] + node.comparators
                    self.assertTrue(any(isinstance(side, ast.Constant) and side.value in (None, True, False)
                                        for side in sides), (path, node.lineno))

    def test_sets_stand_directly_in_sorted_and_len(self):
        for path, _, tree in self.trees():
            held = [id(part) for node in ast.walk(tree) if isinstance(node, ast.Call) and isinstance(node.func, ast.Name)
                    and node.func.id in ("sorted", "len") and not node.keywords for part in node.args]
            for node in ast.walk(tree):
                called = isinstance(node, ast.Call) and isinstance(node.func, ast.Name) and node.func.id == "set"
                if called or isinstance(node, (ast.SetComp, ast.Set)):
                    self.assertIn(id(node), held, (path, node.lineno))

    def test_methods_of_builtin_values(self):
        allowed = set("""append clear copy count endswith extend find get index insert items join keys pop remove replace
            setdefault sort split startswith strip update values""".split())
        for path, _, tree in self.trees():
            own = {row.name for other in self.trees() for node in ast.walk(other[2]) if isinstance(node, ast.ClassDef)
                   for row in node.body if isinstance(row, ast.FunctionDef)}
            for node in ast.walk(tree):
                if isinstance(node, ast.Call) and isinstance(node.func, ast.Attribute):
                    self.assertIn(node.func.attr, allowed | own, (path, node.lineno))

    def test_modules_hold_only_definitions(self):
        for path, _, tree in self.trees():
            self.assertIsNotNone(ast.get_docstring(tree), path)
            for row in tree.body[1:]:
                self.assertIsInstance(row, (ast.ImportFrom, ast.FunctionDef, ast.ClassDef, ast.Assign), path)
            names = [name for row in tree.body for name in self.bound(row)]
            names += [alias.name for row in tree.body if isinstance(row, ast.ImportFrom) for alias in row.names]
            self.assertEqual(len(names), len(set(names)), path)

    def test_names_that_are_used(self):
        for path, text, tree in self.trees():
            words = [token.string for token in tokenize.generate_tokens(io.StringIO(text).readline)
                     if token.type == tokenize.NAME]
            self.assertFalse(BARRED & set(words), path)
            own = {node.id for node in ast.walk(tree) if isinstance(node, ast.Name) and isinstance(node.ctx, ast.Store)}
            own |= {node.arg for node in ast.walk(tree) if isinstance(node, ast.arg)}
            self.assertFalse(own & (BUILTINS | set(dir(builtins)) - {"_"}), path)
            named = {name for row in tree.body for name in self.bound(row)}
            named |= {alias.name for row in tree.body if isinstance(row, ast.ImportFrom) for alias in row.names}
            read = {node.id for node in ast.walk(tree) if isinstance(node, ast.Name) and isinstance(node.ctx, ast.Load)}
            self.assertLessEqual(read, named | own | BUILTINS, path)

    def test_no_local_name_is_that_of_an_import_or_a_class(self):
        for path, _, tree in self.trees():
            barred = {alias.name for row in tree.body if isinstance(row, ast.ImportFrom) for alias in row.names}
            barred |= {row.name for row in tree.body if isinstance(row, ast.ClassDef)}
            for node in ast.walk(tree):
                if isinstance(node, ast.Name) and isinstance(node.ctx, ast.Store):
                    self.assertNotIn(node.id, barred, path)
                if isinstance(node, ast.arg):
                    self.assertNotIn(node.arg, barred, path)


if __name__ == "__main__":
    unittest.main()
