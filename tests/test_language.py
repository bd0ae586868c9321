"""The rules of the language that the package is written in, as far as a short test can see them."""

import ast
import builtins
import functools
import pathlib
import re
import unittest

PACKAGE = pathlib.Path(__file__).resolve().parent.parent / "pyhold"

BUILTINS = set(
    "len range enumerate zip min max sum abs sorted reversed int str bool bytes list tuple dict "
    "set frozenset isinstance ord repr any all divmod pow Exception ValueError TypeError KeyError "
    "IndexError LookupError ZeroDivisionError ArithmeticError OverflowError RuntimeError "
    "NotImplementedError AttributeError StopIteration".split())

METHODS = set(
    "append clear copy count endswith extend find get index insert isalnum isalpha isdigit islower "
    "isspace isupper items join keys ljust lower lstrip partition pop remove replace reverse rfind "
    "rjust rpartition rsplit rstrip setdefault split splitlines startswith strip update upper values "
    "zfill bit_length removeprefix isascii add discard".split())

BARRED = set(
    "register mro elements open input law version_info with_traceback add_note attrgetter "
    "breakpoint builtins compile copyright credits delattr dir eval exec exit gc getattr globals "
    "hasattr help id importlib license locals methodcaller os quit setattr super type vars sys".split())

STATEMENTS = (
    ast.Module, ast.FunctionDef, ast.ClassDef, ast.Import, ast.ImportFrom, ast.Assign,
    ast.AugAssign, ast.If, ast.While, ast.For, ast.Return, ast.Break, ast.Continue, ast.Pass,
    ast.Raise, ast.Assert, ast.Delete, ast.Try, ast.Expr)

MODULE_LEVEL = (ast.FunctionDef, ast.ClassDef, ast.ImportFrom, ast.Assign, ast.Expr)


@functools.cache
def files():
    return sorted(PACKAGE.glob("*.py"))


@functools.cache
def trees():
    return [(path.name, ast.parse(path.read_text("utf-8"))) for path in files()]


def own_methods():
    found = set()
    for _, tree in trees():
        for node in ast.walk(tree):
            if isinstance(node, ast.ClassDef):
                found |= {row.name for row in node.body if isinstance(row, ast.FunctionDef)}
    return found


class Files(unittest.TestCase):
    def test_only_python_files(self):
        for path in PACKAGE.iterdir():
            if path.name != "__pycache__":
                self.assertTrue(re.fullmatch(r"[a-z_0-9]+\.py", path.name), path)
        self.assertTrue((PACKAGE / "__init__.py").exists())
        self.assertLessEqual(len(files()), 100)

    def test_characters_and_sizes(self):
        for path in files():
            data = path.read_bytes()
            self.assertTrue(all(b == 10 or 32 <= b <= 126 for b in data), path)
            lines = data.decode("ascii").split("\n")
            self.assertLessEqual(len(lines), 399, path)
            self.assertLessEqual(max(len(line) for line in lines), 120, path)
            words = re.findall(r"\w+", data.decode("ascii"))
            self.assertFalse([word for word in words if word in ("_wall", "_WallAttr")], path)

    def test_no_module_of_a_builtin_name(self):
        for path in files():
            self.assertNotIn(path.stem, set(dir(builtins)) | BARRED | {"test", "tests", "testing", "site"})


class Rules(unittest.TestCase):
    def each(self, *kinds):
        for name, tree in trees():
            for node in ast.walk(tree):
                if isinstance(node, kinds):
                    yield f"{name}:{getattr(node, 'lineno', 0)}", node

    def test_imports(self):
        known = {path.stem for path in files()}
        reached = {}
        for name, tree in trees():
            reached[name[:-3]] = []
            for node in ast.walk(tree):
                self.assertNotIsInstance(node, ast.Import, name)
                if isinstance(node, ast.ImportFrom):
                    package, _, module = node.module.partition(".")
                    self.assertEqual((package, node.level), ("pyhold", 0), name)
                    self.assertIn(module, known, name)
                    self.assertIn(node, tree.body, name)
                    defined = self.defined(module)
                    for alias in node.names:
                        self.assertIn(alias.name, defined, name)
                        self.assertIsNone(alias.asname, name)
                    reached[name[:-3]].append(module)
        self.check_no_circle(reached)

    def defined(self, module):
        found = set()
        for row in dict(trees())[module + ".py"].body:
            if isinstance(row, (ast.FunctionDef, ast.ClassDef)):
                found.add(row.name)
            if isinstance(row, ast.Assign):
                found.add(row.targets[0].id)
        return found

    def check_no_circle(self, reached):
        for start in reached:
            waiting = list(reached[start])
            met = set()
            while waiting:
                module = waiting.pop()
                self.assertNotEqual(module, start)
                if module not in met:
                    met.add(module)
                    waiting.extend(reached[module])

    def test_statements(self):
        for place, node in self.each(ast.stmt):
            self.assertIsInstance(node, STATEMENTS, place)
        for name, tree in trees():
            for row in tree.body:
                self.assertIsInstance(row, MODULE_LEVEL, (name, row.lineno))

    def test_expressions(self):
        for place, node in self.each(
                ast.Lambda, ast.Yield, ast.YieldFrom, ast.Await, ast.Set, ast.Starred, ast.Div,
                ast.NamedExpr, ast.Pow):
            self.fail(f"{place}: {type(node).__name__}")

    def test_functions(self):
        for place, node in self.each(ast.FunctionDef):
            self.assertLessEqual(node.end_lineno - node.lineno + 1, 40, place)
            for decorator in node.decorator_list:
                self.assertEqual(ast.unparse(decorator), "property", place)
            self.assertIsNone(node.args.vararg, place)
            self.assertIsNone(node.args.kwarg, place)
            if node.name.startswith("__"):
                self.assertEqual(node.name, "__init__", place)

    def bound_names(self):
        for place, node in self.each(ast.Name, ast.FunctionDef, ast.ClassDef, ast.arg):
            if isinstance(node, ast.Name) and isinstance(node.ctx, ast.Store):
                yield place, node.id
            elif isinstance(node, (ast.FunctionDef, ast.ClassDef)):
                yield place, node.name
            elif isinstance(node, ast.arg):
                yield place, node.arg

    def test_names(self):
        methods = own_methods()
        for place, name in self.bound_names():
            self.assertNotIn(name, set(dir(builtins)) - {"_"}, place)
            self.assertNotIn(name, BARRED, place)
            self.assertTrue(re.fullmatch(r"_?[A-Za-z][A-Za-z0-9_]*|_|__init__", name), place)
        for method in methods - {"__init__"}:
            for value in ("", 0, [], {}, (), b""):
                self.assertFalse(hasattr(value, method), method)

    def test_no_name_of_a_file_hides_another(self):
        for name, tree in trees():
            rows = []
            for row in tree.body:
                if isinstance(row, ast.ImportFrom):
                    rows.extend(alias.name for alias in row.names)
                elif isinstance(row, (ast.FunctionDef, ast.ClassDef)):
                    rows.append(row.name)
                elif isinstance(row, ast.Assign):
                    rows.append(row.targets[0].id)
            self.assertEqual(len(rows), len(set(rows)), name)
            for node in ast.walk(tree):
                if isinstance(node, ast.arg):
                    self.assertNotIn(node.arg, rows, name)
                if isinstance(node, ast.Name) and isinstance(node.ctx, ast.Store):
                    if node not in [row.targets[0] for row in tree.body if isinstance(row, ast.Assign)]:
                        self.assertNotIn(node.id, rows, name)

    def test_names_that_are_read(self):
        for name, tree in trees():
            known = set(BUILTINS)
            for node in ast.walk(tree):
                if isinstance(node, ast.Name) and isinstance(node.ctx, ast.Store):
                    known.add(node.id)
                elif isinstance(node, (ast.FunctionDef, ast.ClassDef)):
                    known.add(node.name)
                elif isinstance(node, ast.arg):
                    known.add(node.arg)
                elif isinstance(node, ast.ImportFrom):
                    known |= {alias.name for alias in node.names}
            for node in ast.walk(tree):
                if isinstance(node, ast.Name) and isinstance(node.ctx, ast.Load):
                    if node.id not in ("super", "property"):
                        self.assertIn(node.id, known, (name, node.lineno))
                    self.assertNotEqual(node.id, "_", (name, node.lineno))

    def test_methods(self):
        own = own_methods()
        for place, node in self.each(ast.Call):
            if isinstance(node.func, ast.Attribute):
                self.assertIn(node.func.attr, METHODS | own, place)

    def test_errors(self):
        for place, node in self.each(ast.ExceptHandler):
            self.assertIsInstance(node.type, ast.Name, place)
        for place, node in self.each(ast.Raise):
            self.assertIsInstance(node.exc, ast.Call, place)

    def test_is(self):
        for place, node in self.each(ast.Compare):
            for op, other in zip(node.ops, node.comparators):
                if isinstance(op, (ast.Is, ast.IsNot)):
                    self.assertIsInstance(other, ast.Constant, place)
                    self.assertIn(other.value, (None, True, False), place)

    def test_strings(self):
        for place, node in self.each(ast.Constant):
            if isinstance(node.value, str):
                self.assertNotIn("%", node.value, place)
                self.assertNotRegex(node.value, r"\btype\b", place)
                self.assertFalse(node.value.endswith(("._", ".__")), place)
            self.assertNotIsInstance(node.value, (float, complex), place)

    def test_loops_do_not_change_what_they_go_over(self):
        changing = {"append", "clear", "extend", "insert", "pop", "remove", "reverse", "setdefault",
                    "update"}
        for place, loop in self.each(ast.For):
            over = {node.id for node in ast.walk(loop.iter) if isinstance(node, ast.Name)}
            for row in loop.body:
                for node in ast.walk(row):
                    if isinstance(node, ast.Call) and isinstance(node.func, ast.Attribute):
                        if node.func.attr in changing and isinstance(node.func.value, ast.Name):
                            self.assertNotIn(node.func.value.id, over, place)


if __name__ == "__main__":
    unittest.main()
