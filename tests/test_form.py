"""The form of the package's files: the rules of the language that can be counted or looked up."""

import ast
import unittest
from pathlib import Path

PACKAGE = Path(__file__).resolve().parent.parent / "perfectgraphs"
FILES = sorted(path for path in PACKAGE.rglob("*") if "__pycache__" not in path.parts)
BUILTINS = set((
    "len range enumerate zip min max sum abs sorted reversed int str bool bytes list tuple dict set isinstance ord repr "
    "any all divmod type map Exception ValueError TypeError KeyError IndexError LookupError ZeroDivisionError "
    "RuntimeError NotImplementedError StopIteration"
).split())
METHODS = set((
    "append clear copy count endswith extend find get index insert isalnum isalpha isdigit islower isspace isupper items "
    "join keys ljust lower lstrip partition pop remove replace reverse rfind rjust rpartition rsplit rstrip setdefault "
    "split splitlines startswith strip update upper values zfill bit_length add discard"
).split())
LIBRARY = {"itertools": ("combinations", "permutations", "product"), "math": ("gcd", "lcm")}
BARRED = (ast.Global, ast.AsyncFunctionDef, ast.AsyncFor, ast.AsyncWith, ast.Await, ast.Div, ast.MatMult, ast.Import)


def trees():
    return [(path.name, ast.parse(path.read_text(encoding="utf-8"))) for path in FILES]


def bound_names(tree):
    """All names that a file binds anywhere."""
    names = set()
    for node in ast.walk(tree):
        if isinstance(node, (ast.FunctionDef, ast.ClassDef)):
            names.add(node.name)
        elif isinstance(node, ast.arg):
            names.add(node.arg)
        elif isinstance(node, ast.Name) and isinstance(node.ctx, ast.Store):
            names.add(node.id)
        elif isinstance(node, (ast.alias, ast.ExceptHandler)):
            names.add(node.name)
    return names


class Form(unittest.TestCase):
    def test_files(self):
        self.assertIn("__init__.py", [path.name for path in FILES])
        for path in FILES:
            self.assertTrue(path.is_dir() or path.suffix == ".py", path)
            self.assertEqual(path.name, path.name.lower())

    def test_sizes_and_characters(self):
        for path in FILES:
            text = path.read_text(encoding="utf-8")
            self.assertTrue(all(sign == "\n" or " " <= sign <= "~" for sign in text), path)
            self.assertLessEqual(len(text.splitlines()), 399, path)
            self.assertLessEqual(max(len(line) for line in text.splitlines()), 120, path)
        for name, tree in trees():
            for node in ast.walk(tree):
                if isinstance(node, ast.FunctionDef):
                    self.assertLessEqual(node.end_lineno - node.lineno + 1, 40, (name, node.name))

    def test_imports_by_full_names_from_the_file_that_defines_them(self):
        for name, tree in trees():
            for node in ast.walk(tree):
                if isinstance(node, ast.ImportFrom):
                    self.assertEqual(node.level, 0, name)
                    self.assertEqual([alias.asname for alias in node.names], [None] * len(node.names), name)
                    if node.module in LIBRARY:
                        self.assertTrue({alias.name for alias in node.names} <= set(LIBRARY[node.module]), name)
                        continue
                    self.assertTrue(node.module.startswith("perfectgraphs."), (name, node.module))
                    source = (PACKAGE / (node.module.split(".")[1] + ".py")).read_text(encoding="utf-8")
                    defined = [row.name for row in ast.parse(source).body
                               if isinstance(row, (ast.FunctionDef, ast.ClassDef))]
                    defined += [row.targets[0].id for row in ast.parse(source).body if isinstance(row, ast.Assign)]
                    for alias in node.names:
                        self.assertIn(alias.name, defined, name)

    def test_no_two_files_import_from_each_other(self):
        ahead = {}
        for name, tree in trees():
            modules = [node.module for node in tree.body if isinstance(node, ast.ImportFrom)]
            ahead[name] = {module.split(".")[1] + ".py" for module in modules if module not in LIBRARY}
        while ahead:
            free = [name for name, others in ahead.items() if not others]
            self.assertTrue(free, ahead)
            ahead = {name: others - set(free) for name, others in ahead.items() if others}

    def test_no_parameter_or_variable_has_the_name_of_an_import(self):
        for name, tree in trees():
            imported = {alias.name for node in tree.body if isinstance(node, ast.ImportFrom) for alias in node.names}
            bound = [node.arg for node in ast.walk(tree) if isinstance(node, ast.arg)]
            bound += [node.id for node in ast.walk(tree) if isinstance(node, ast.Name) and isinstance(node.ctx, ast.Store)]
            bound += [node.name for node in ast.walk(tree) if isinstance(node, ast.ExceptHandler)]
            self.assertEqual(imported & set(bound), set(), name)
            used = {node.id for node in ast.walk(tree) if isinstance(node, ast.Name)}
            self.assertEqual(imported - used, set(), name)

    def test_words_of_the_language(self):
        for name, tree in trees():
            bound = bound_names(tree)
            self.assertEqual(bound & BUILTINS, set(), name)
            for node in ast.walk(tree):
                place = (name, getattr(node, "lineno", 0))
                self.assertNotIsInstance(node, BARRED, place)
                if isinstance(node, ast.Name) and isinstance(node.ctx, ast.Load):
                    self.assertIn(node.id, bound | BUILTINS, place)
                if isinstance(node, ast.Constant):
                    self.assertNotIsInstance(node.value, (float, complex), place)
                if isinstance(node, ast.Call) and isinstance(node.func, ast.Attribute):
                    self.assertIn(node.func.attr, METHODS, place)
                if isinstance(node, (ast.FunctionDef, ast.ClassDef)):
                    self.assertEqual(node.decorator_list, [], place)


if __name__ == "__main__":
    unittest.main()
