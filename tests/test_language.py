"""The rules of the language that can be told file by file: sizes, imports, statements, builtins and methods."""

import ast
import builtins
import pathlib
import re
import unittest

PACKAGE = pathlib.Path(__file__).resolve().parent.parent / "neverheaps"
LIBRARY = {
    "math": {"gcd", "lcm", "isqrt", "comb", "perm", "factorial"},
    "heapq": {"heappush", "heappop", "heapify", "heapreplace", "heappushpop"},
    "itertools": {"product", "combinations", "permutations", "chain", "accumulate", "pairwise", "islice", "zip_longest"},
    "collections": {"defaultdict"},
}
BUILTINS = set(
    "len range enumerate zip min max sum abs sorted reversed int str bool bytes list tuple dict set frozenset isinstance ord repr "
    "any all divmod pow getattr hasattr setattr iter next map Exception ValueError TypeError KeyError IndexError LookupError "
    "ZeroDivisionError ArithmeticError OverflowError RuntimeError NotImplementedError AttributeError StopIteration NotImplemented "
    "super".split()
)
METHODS = set(
    "append clear copy count endswith extend find get index insert isalnum isalpha isdigit islower isspace isupper items join keys "
    "ljust lower lstrip partition pop remove replace reverse rfind rjust rpartition rsplit rstrip setdefault split splitlines "
    "startswith strip update upper values zfill bit_length".split()
)
NODES = (
    ast.Global, ast.AsyncFunctionDef, ast.AsyncFor, ast.AsyncWith, ast.Await, ast.AnnAssign, ast.GeneratorExp, ast.Div, ast.Set,
    ast.SetComp, ast.Import, ast.Yield, ast.YieldFrom, ast.With, ast.Match, ast.Nonlocal, ast.MatMult,
)
BARRED = {"register", "mro", "elements", "open", "input", "law", "id", "type", "vars", "dir", "eval", "exec", "hash", "format", "help"}


def files():
    return sorted(PACKAGE.rglob("*.py"))


def trees():
    return [(path, ast.parse(path.read_text())) for path in files()]


def functions(tree):
    return [part for part in ast.walk(tree) if isinstance(part, (ast.FunctionDef, ast.Lambda))]


class LanguageTest(unittest.TestCase):

    def test_the_folder_has_files_of_the_package_alone(self):
        for path in PACKAGE.iterdir():
            if path.name != "__pycache__":
                self.assertRegex(path.name, r"^(__init__|[a-z][a-z0-9_]*)\.py$")
        self.assertTrue((PACKAGE / "__init__.py").exists())
        self.assertLessEqual(len(files()), 100)

    def test_sizes_and_characters(self):
        for path in files():
            text = path.read_text()
            self.assertRegex(text, r"\A[ -~\n]*\Z", path)
            lines = text.split("\n")
            self.assertLessEqual(len(lines) - 1, 399, path)
            self.assertLessEqual(max(map(len, lines)), 120, path)
            for part in functions(ast.parse(text)):
                self.assertLessEqual(part.end_lineno - part.lineno + 1, 40, (path, part.lineno))

    def test_imports(self):
        for path, tree in trees():
            names = []
            for part in ast.walk(tree):
                if isinstance(part, ast.ImportFrom):
                    self.assertIn(part, tree.body)
                    self.assertEqual(part.level, 0)
                    for alias in part.names:
                        self.assertIsNone(alias.asname)
                        names.append(alias.name)
                        if part.module not in LIBRARY:
                            source = (PACKAGE.parent / (part.module.replace(".", "/") + ".py")).read_text()
                            self.assertRegex(source, r"(?m)^(def |class )?" + alias.name + r"\b( =|\(|:)", (path, alias.name))
                        else:
                            self.assertIn(alias.name, LIBRARY[part.module])
            self.assertEqual(len(names), len(set(names)), path)

    def test_no_statement_beyond_the_language(self):
        for path, tree in trees():
            for part in ast.walk(tree):
                self.assertNotIsInstance(part, NODES, (path, getattr(part, "lineno", 0)))
                if isinstance(part, (ast.FunctionDef, ast.ClassDef)):
                    self.assertEqual(part.decorator_list, [], path)
                if isinstance(part, ast.Constant):
                    self.assertNotIsInstance(part.value, float)
                    self.assertFalse(isinstance(part.value, str) and "%" in part.value, path)
                if isinstance(part, ast.Compare) and any(isinstance(sign, (ast.Is, ast.IsNot)) for sign in part.ops):
                    self.assertIn(part.comparators[0].value, (None, True, False))
                if isinstance(part, ast.Call) and isinstance(part.func, ast.Name):
                    self.assertFalse(part.keywords and part.func.id in BUILTINS - {"sorted", "min", "max", "sum"}, path)

    def test_builtins_and_names(self):
        # Doctests leave a "_" among the builtins.
        known = [name for name in dir(builtins) if name != "_"]
        for path, tree in trees():
            for part in ast.walk(tree):
                if isinstance(part, ast.Name):
                    self.assertFalse(part.id in known and part.id not in BUILTINS, (path, part.id))
                    self.assertFalse(isinstance(part.ctx, ast.Store) and (part.id in BUILTINS or part.id in BARRED), (path, part.id))
                if isinstance(part, ast.arg):
                    self.assertFalse(part.arg in BUILTINS or part.arg in BARRED or part.arg in known, (path, part.arg))

    def test_no_local_name_hides_another_one(self):
        for path, tree in trees():
            above = {part.name for part in tree.body if isinstance(part, (ast.FunctionDef, ast.ClassDef))}
            above |= {alias.name for part in tree.body if isinstance(part, ast.ImportFrom) for alias in part.names}
            for part in functions(tree):
                for inner in ast.walk(part):
                    if isinstance(inner, ast.Name) and isinstance(inner.ctx, ast.Store):
                        self.assertNotIn(inner.id, above, (path, inner.lineno))
                    if isinstance(inner, ast.arg):
                        self.assertNotIn(inner.arg, above, (path, inner.lineno))

    def test_methods(self):
        own = {part.name for _, tree in trees() for part in functions(tree) if isinstance(part, ast.FunctionDef)}
        for path, tree in trees():
            for part in ast.walk(tree):
                if isinstance(part, ast.Call) and isinstance(part.func, ast.Attribute):
                    self.assertIn(part.func.attr, METHODS | own, path)
                    self.assertEqual(part.keywords, [], path)

    def test_no_two_files_import_each_other(self):
        ahead = {}
        for path, tree in trees():
            found = [part.module for part in tree.body if isinstance(part, ast.ImportFrom)]
            ahead[path.stem] = {module.split(".")[1] for module in found if module.startswith("neverheaps.")}
        while ahead:
            free = [name for name, needs in ahead.items() if not needs & set(ahead)]
            self.assertTrue(free, ahead)
            ahead = {name: needs for name, needs in ahead.items() if name not in free}

    def test_comments_and_docstrings(self):
        for path, tree in trees():
            self.assertTrue(ast.get_docstring(tree), path)
            for part in ast.walk(tree):
                if isinstance(part, (ast.FunctionDef, ast.ClassDef)) and part.name != "__init__":
                    self.assertTrue(ast.get_docstring(part), (path, part.name))
            self.assertIsNone(re.search(r"\bTODO\b|\bprint\(", path.read_text()), path)


if __name__ == "__main__":
    unittest.main()
