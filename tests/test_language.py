"""The rules of the language subset that can be read off the files of the package (rules L1 to L27)."""

import ast
import builtins
import pathlib
import re
import unittest

PACKAGE = pathlib.Path(__file__).resolve().parent.parent / "planehall"
BUILTINS = set((
    "len range enumerate zip min max sum abs sorted reversed int str bool bytes list tuple dict set frozenset isinstance ord "
    "repr any all divmod pow getattr hasattr setattr iter next map Exception ValueError TypeError KeyError IndexError "
    "LookupError ZeroDivisionError ArithmeticError OverflowError RuntimeError NotImplementedError AttributeError "
    "StopIteration NotImplemented print super property staticmethod classmethod object").split())
LIBRARY = {
    "heapq": "heappush heappop heapify heapreplace heappushpop", "math": "gcd lcm isqrt comb perm factorial",
    "itertools": "product combinations permutations chain accumulate pairwise islice zip_longest", "collections": "defaultdict",
}
METHODS = set((
    "append clear copy count endswith extend find get index insert isalnum isalpha isdigit islower isspace isupper items join "
    "keys ljust lower lstrip partition pop remove replace reverse rfind rjust rpartition rsplit rstrip setdefault split "
    "splitlines startswith strip update upper values zfill bit_length title capitalize swapcase casefold center expandtabs "
    "removeprefix removesuffix rindex isascii isdecimal isnumeric istitle isidentifier isprintable translate sort add discard "
    "encode decode hex format from_iterable").split())
MODULE_PARTS = (ast.ImportFrom, ast.FunctionDef, ast.ClassDef, ast.Assign, ast.AnnAssign)
BARRED = (ast.Global, ast.AsyncFunctionDef, ast.AsyncFor, ast.AsyncWith, ast.Await, ast.Div, ast.MatMult, ast.Import)
FILES = sorted(PACKAGE.glob("**/*.py"))
TREES = {path: ast.parse(path.read_text(encoding="utf-8")) for path in FILES}


def module_of(path):
    return ".".join(path.relative_to(PACKAGE.parent).with_suffix("").parts)


def bound_names(tree):
    for node in ast.walk(tree):
        if isinstance(node, ast.Name) and not isinstance(node.ctx, ast.Load):
            yield node.id
        elif isinstance(node, ast.arg):
            yield node.arg
        elif isinstance(node, (ast.FunctionDef, ast.ClassDef)):
            yield node.name


class Files(unittest.TestCase):
    def test_the_folder_holds_plain_files_alone(self):
        self.assertTrue(FILES)
        for path in PACKAGE.glob("**/*"):
            if "__pycache__" not in path.parts and path.is_file():
                self.assertRegex(path.name, r"^[a-z_][a-z0-9_]*\.py$")

    def test_lines_and_signs(self):
        for path in FILES:
            text = path.read_text(encoding="utf-8")
            self.assertRegex(text, r"^[ -~\n]*$", path)
            self.assertLessEqual(text.count("\n"), 399, path)
            self.assertLessEqual(max([len(row) for row in text.split("\n")]), 120, path)
            self.assertIsNone(re.search(r"\b(_wall|_WallAttr)", text), path)

    def test_functions_are_short(self):
        for path, tree in TREES.items():
            for node in ast.walk(tree):
                if isinstance(node, ast.FunctionDef):
                    self.assertLessEqual(node.end_lineno - node.lineno + 1, 40, (path, node.name))


class Rules(unittest.TestCase):
    def test_imports(self):
        for path, tree in TREES.items():
            for node in ast.walk(tree):
                if isinstance(node, ast.ImportFrom):
                    self.assertEqual(node.level, 0, path)
                    for alias in node.names:
                        self.assertIsNone(alias.asname, path)
                        self.assertTrue(self.is_let(node.module, alias.name), (path, node.module, alias.name))

    def is_let(self, module, name):
        if module in LIBRARY:
            return name in LIBRARY[module].split()
        for path, tree in TREES.items():
            if module_of(path) == module:
                targets = [part.targets[0].id for part in tree.body if isinstance(part, ast.Assign)]
                targets += [part.target.id for part in tree.body if isinstance(part, ast.AnnAssign)]
                return name in targets + [part.name for part in tree.body if hasattr(part, "name")]
        return (module, name) == ("__future__", "annotations")

    def test_no_two_files_import_from_each_other(self):
        imports = {
            module_of(path): [part.module for part in tree.body if isinstance(part, ast.ImportFrom)]
            for path, tree in TREES.items()}
        left = dict(imports)
        while left:
            free = [name for name in left if not [other for other in left[name] if other in left]]
            self.assertTrue(free, left)
            left = {name: left[name] for name in left if name not in free}

    def test_module_level(self):
        for path, tree in TREES.items():
            for at, node in enumerate(tree.body):
                is_docstring = at == 0 and isinstance(node, ast.Expr) and isinstance(node.value, ast.Constant)
                is_main = path.name == "__main__.py"
                self.assertTrue(is_docstring or is_main or isinstance(node, MODULE_PARTS), (path, node.lineno))

    def test_no_barred_parts(self):
        for path, tree in TREES.items():
            for node in ast.walk(tree):
                if path.name != "__main__.py":
                    self.assertNotIsInstance(node, BARRED, (path, getattr(node, "lineno", None)))
                if isinstance(node, ast.Constant):
                    self.assertNotIsInstance(node.value, (float, complex), path)
                    if isinstance(node.value, str):
                        self.assertNotIn("%", node.value, (path, node.lineno))
                if isinstance(node, ast.Compare):
                    for sign, part in zip(node.ops, node.comparators):
                        if isinstance(sign, (ast.Is, ast.IsNot)):
                            self.assertIsInstance(part, (ast.Constant, ast.Name), (path, node.lineno))

    def test_builtins(self):
        for path, tree in TREES.items():
            for name in bound_names(tree):
                self.assertNotIn(name, vars(builtins), path)
            bound = set(bound_names(tree))
            for node in ast.walk(tree):
                if isinstance(node, ast.Name) and isinstance(node.ctx, ast.Load) and node.id in vars(builtins):
                    self.assertIn(node.id, BUILTINS | bound, (path, node.lineno))

    def test_methods(self):
        own = {node.name for tree in TREES.values() for node in ast.walk(tree) if isinstance(node, ast.FunctionDef)}
        for path, tree in TREES.items():
            for node in ast.walk(tree):
                if isinstance(node, ast.Call) and isinstance(node.func, ast.Attribute):
                    self.assertIn(node.func.attr, METHODS | own, (path, node.lineno))

    def test_imported_names_have_no_other_meaning(self):
        for path, tree in TREES.items():
            imported = [alias.name for node in ast.walk(tree) if isinstance(node, ast.ImportFrom) for alias in node.names]
            self.assertEqual(len(imported), len(set(imported)), path)
            for name in bound_names(tree):
                self.assertNotIn(name, imported, path)
            used = {node.id for node in ast.walk(tree) if isinstance(node, ast.Name)}
            if path.name != "__init__.py":
                self.assertEqual([name for name in imported if name not in used], [], path)


if __name__ == "__main__":
    unittest.main()
