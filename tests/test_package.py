"""What the document and the language rules say of the package's files themselves."""

import ast
import pathlib
import unittest

ROOT = pathlib.Path(__file__).resolve().parent.parent
PACKAGE = ROOT / "traceclasses"
LIBRARY = ("heapq", "math", "itertools", "collections", "__future__")

# File, then each function or class of the interface with its parameters.
INTERFACE = {
    "errors.py": {"TraceFault": None, "AlphabetFault": None, "ExchangeFault": None, "ScheduleFault": None},
    "alphabets.py": {
        "check": ["alphabet"],
        "independent": ["alphabet", "x", "y"],
        "free": ["alphabet", "word", "other"],
        "taken_out": ["word", "letters"],
    },
    "exchanges.py": {
        "parts": ["alphabet", "word", "other"],
        "exchanges": ["alphabet", "word", "other"],
        "exchanged": ["alphabet", "word", "places"],
        "distance": ["alphabet", "word", "other"],
    },
}


def files():
    return sorted(path for path in PACKAGE.rglob("*") if "__pycache__" not in path.parts)


def tree(path):
    return ast.parse(path.read_text("utf-8"))


class Interface(unittest.TestCase):
    def test_each_name_is_defined_in_its_file(self):
        for name, wanted in INTERFACE.items():
            found = {}
            for node in tree(PACKAGE / name).body:
                if isinstance(node, ast.FunctionDef):
                    found[node.name] = [arg.arg for arg in node.args.args]
                elif isinstance(node, ast.ClassDef):
                    found[node.name] = None
            for known, parameters in wanted.items():
                self.assertIn(known, found, name)
                self.assertEqual(found[known], parameters, known)


class Language(unittest.TestCase):
    def test_the_folder_contains_only_python_files(self):
        self.assertTrue((PACKAGE / "__init__.py").is_file())
        for path in files():
            self.assertTrue(path.is_dir() or path.suffix == ".py", path)

    def test_sizes_and_characters(self):
        for path in files():
            lines = path.read_text("utf-8").split("\n")
            self.assertLessEqual(len(lines), 399, path)
            for line in lines:
                self.assertLessEqual(len(line), 120, (path, line))
                self.assertTrue(all(" " <= sign <= "~" for sign in line), (path, line))
            for node in ast.walk(tree(path)):
                if isinstance(node, ast.FunctionDef):
                    self.assertLessEqual(node.end_lineno - node.lineno + 1, 40, (path, node.name))

    def test_imports_name_the_package_or_the_few_library_modules(self):
        for path in files():
            for node in ast.walk(tree(path)):
                self.assertNotIsInstance(node, (ast.Import, ast.Global, ast.AsyncFunctionDef), path)
                if isinstance(node, ast.ImportFrom):
                    self.assertEqual(node.level, 0, path)
                    self.assertTrue(node.module.startswith("traceclasses.") or node.module in LIBRARY, path)
                    self.assertNotIn("*", [alias.name for alias in node.names])

    def test_a_module_level_contains_no_code_that_runs(self):
        allowed = (ast.ImportFrom, ast.FunctionDef, ast.ClassDef, ast.Assign, ast.AnnAssign)
        for path in files():
            for node in tree(path).body:
                text = isinstance(node, ast.Expr) and isinstance(node.value, ast.Constant)
                self.assertTrue(text or isinstance(node, allowed), (path, node.lineno))

    def test_no_floats(self):
        for path in files():
            for node in ast.walk(tree(path)):
                self.assertNotIsInstance(node, ast.Div, path)
                self.assertFalse(isinstance(node, ast.Constant) and isinstance(node.value, float), path)


if __name__ == "__main__":
    unittest.main()
