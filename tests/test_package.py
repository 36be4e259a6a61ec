"""What the document and the language rules say of the package's files themselves."""

import ast
import builtins
import doctest
import pathlib
import unittest

ROOT = pathlib.Path(__file__).resolve().parent.parent
PACKAGE = ROOT / "traceclasses"
# What the language rules let the package call or name of Python's own.
BUILTINS = """
    len range enumerate zip min max sum abs sorted reversed int str bool bytes list tuple dict set isinstance ord
    repr any all divmod pow Exception ValueError TypeError KeyError IndexError LookupError super
""".split()
# A doctest that has run leaves a name _ there.
OF_PYTHON = set(dir(builtins)) - {"_"}
LIBRARY = ("heapq", "math", "itertools", "collections", "__future__")

# File, then each function or class of the interface with its parameters.
INTERFACE = {
    "errors.py": {"TraceFault": None, "AlphabetFault": None, "ExchangeFault": None, "ScheduleFault": None},
    "alphabets.py": {
        "check": ["alphabet"],
        "independent": ["alphabet", "x", "y"],
        "free": ["alphabet", "word", "other"],
        "taken_out": ["word", "letters"],
    },
    "exchanges.py": {
        "parts": ["alphabet", "word", "other"],
        "exchanges": ["alphabet", "word", "other"],
        "exchanged": ["alphabet", "word", "places"],
        "distance": ["alphabet", "word", "other"],
    },
    "graphs.py": {
        "graph": ["alphabet", "word"],
        "firsts": ["alphabet", "word"],
        "lasts": ["alphabet", "word"],
        "height": ["alphabet", "word"],
        "width": ["alphabet", "word"],
    },
    "forms.py": {
        "least": ["alphabet", "word"],
        "greatest": ["alphabet", "word"],
        "steps": ["alphabet", "word"],
        "words_of": ["alphabet", "word"],
    },
    "counting.py": {
        "cliques": ["alphabet"],
        "count_words": ["alphabet", "word"],
        "count_prefixes": ["alphabet", "word"],
        "count_traces": ["alphabet", "n"],
        "traces": ["alphabet", "n"],
        "nth": ["alphabet", "n", "place"],
        "place_of": ["alphabet", "word"],
    },
    "prefixes.py": {
        "is_prefix": ["alphabet", "word", "other"],
        "rest": ["alphabet", "word", "other"],
        "prefixes": ["alphabet", "word"],
        "meet": ["alphabet", "word", "other"],
        "join": ["alphabet", "word", "other"],
    },
    "levi.py": {
        "levi": ["alphabet", "x", "y", "z", "t"],
        "is_levi": ["alphabet", "x", "y", "z", "t", "pieces"],
    },
    "roots.py": {
        "components": ["alphabet", "word"],
        "root": ["alphabet", "word"],
        "power": ["alphabet", "word", "n"],
    },
    "conjugates.py": {
        "commute": ["alphabet", "word", "other"],
        "transposed": ["alphabet", "word", "other"],
        "conjugates": ["alphabet", "word"],
        "way": ["alphabet", "word", "other"],
    },
    "automata.py": {
        "takes": ["automaton", "word"],
        "minimal": ["alphabet", "automaton"],
        "equal": ["alphabet", "automaton", "other"],
    },
    "closed.py": {
        "is_closed": ["alphabet", "automaton"],
        "count_taken": ["alphabet", "automaton", "n"],
        "first_taken": ["alphabet", "automaton"],
    },
    "programs.py": {
        "values_behind": ["program", "schedule"],
        "possible": ["program", "schedule"],
        "touched": ["step"],
    },
    "runs.py": {
        "same_runs": ["program", "schedule", "other"],
        "first_run": ["program", "schedule"],
        "runs": ["program"],
        "ends": ["program"],
        "stuck": ["program"],
    },
    "watching.py": {
        "before": ["program", "schedule"],
        "clocks": ["program", "schedule"],
        "races": ["program", "schedule"],
        "cuts": ["program", "schedule"],
        "some": ["program", "schedule", "condition"],
        "every": ["program", "schedule", "condition"],
    },
    "making.py": {
        "both": ["alphabet", "one", "other"],
        "either": ["alphabet", "one", "other"],
        "without": ["alphabet", "one", "other"],
        "product": ["alphabet", "one", "other"],
        "of_words": ["alphabet", "words"],
        "behind": ["alphabet", "automaton", "word"],
    },
    "growth.py": {
        "polynomial": ["alphabet"],
        "factors": ["alphabet"],
        "multiplied": ["first", "second"],
        "count_modulo": ["alphabet", "n", "m"],
        "count_between": ["alphabet", "word", "n"],
    },
}


def files():
    return sorted(path for path in PACKAGE.rglob("*") if "__pycache__" not in path.parts)


def tree(path):
    return ast.parse(path.read_text("utf-8"))


def imported(path):
    """The files of the package from which a file imports, with the names."""
    found = {}
    for node in ast.walk(tree(path)):
        if isinstance(node, ast.ImportFrom) and node.module.startswith("traceclasses."):
            found[node.module.split(".")[1] + ".py"] = [alias.name for alias in node.names]
    return found


def bound_in_functions(path):
    """All parameters and variables of a file's functions, those of comprehensions too."""
    for node in ast.walk(tree(path)):
        if isinstance(node, ast.arg):
            yield node.arg
        elif isinstance(node, ast.Name) and isinstance(node.ctx, ast.Store):
            yield node.id


class Interface(unittest.TestCase):
    def test_each_name_is_defined_in_its_file(self):
        for name, wanted in INTERFACE.items():
            found = {}
            for node in tree(PACKAGE / name).body:
                if isinstance(node, ast.FunctionDef):
                    found[node.name] = [arg.arg for arg in node.args.args]
                elif isinstance(node, ast.ClassDef):
                    found[node.name] = None
            for known, parameters in wanted.items():
                self.assertIn(known, found, name)
                self.assertEqual(found[known], parameters, known)


class Readme(unittest.TestCase):
    def test_its_examples(self):
        text = (ROOT / "README.md").read_text("utf-8")
        examples = [block for block in text.split("```") if block.lstrip().startswith(">>>")]
        self.assertTrue(examples)
        case = doctest.DocTestParser().get_doctest("\n".join(examples), {}, "README.md", "README.md", 0)
        told = []
        doctest.DocTestRunner(verbose=False).run(case, out=told.append)
        self.assertEqual("".join(told), "")


class Language(unittest.TestCase):
    def test_the_folder_contains_only_python_files(self):
        self.assertTrue((PACKAGE / "__init__.py").is_file())
        for path in files():
            self.assertTrue(path.is_dir() or path.suffix == ".py", path)

    def test_sizes_and_characters(self):
        for path in files():
            lines = path.read_text("utf-8").split("\n")
            self.assertLessEqual(len(lines), 399, path)
            for line in lines:
                self.assertLessEqual(len(line), 120, (path, line))
                self.assertTrue(all(" " <= sign <= "~" for sign in line), (path, line))
            for node in ast.walk(tree(path)):
                if isinstance(node, ast.FunctionDef):
                    self.assertLessEqual(node.end_lineno - node.lineno + 1, 40, (path, node.name))

    def test_imports_name_the_package_or_the_few_library_modules(self):
        for path in files():
            for node in ast.walk(tree(path)):
                self.assertNotIsInstance(node, (ast.Import, ast.Global, ast.AsyncFunctionDef), path)
                if isinstance(node, ast.ImportFrom):
                    self.assertEqual(node.level, 0, path)
                    self.assertTrue(node.module.startswith("traceclasses.") or node.module in LIBRARY, path)
                    self.assertNotIn("*", [alias.name for alias in node.names])

    def test_imports_name_the_file_that_defines_the_name(self):
        for path in files():
            for name, wanted in imported(path).items():
                found = [getattr(node, "name", None) for node in tree(PACKAGE / name).body]
                self.assertLessEqual(set(wanted), set(found), path)

    def test_all_that_is_imported_is_used(self):
        for path in files():
            used = {node.id for node in ast.walk(tree(path)) if isinstance(node, ast.Name)}
            for wanted in imported(path).values():
                self.assertLessEqual(set(wanted), used, path)

    def test_no_two_files_import_from_each_other(self):
        left = {path.name: set(imported(path)) for path in files()}
        while left:
            free = [name for name in left if not left[name] & set(left)]
            self.assertTrue(free, left)
            for name in free:
                del left[name]

    def test_no_variable_has_the_name_of_a_builtin_or_of_an_import(self):
        for path in files():
            taken = OF_PYTHON.union(*imported(path).values())
            self.assertEqual(sorted(set(bound_in_functions(path)) & taken), [], path)

    def test_only_some_builtins_are_used(self):
        for path in files():
            used = {node.id for node in ast.walk(tree(path)) if isinstance(node, ast.Name)}
            self.assertEqual(sorted(used & OF_PYTHON - set(BUILTINS)), [], path)

    def test_a_module_level_contains_no_code_that_runs(self):
        allowed = (ast.ImportFrom, ast.FunctionDef, ast.ClassDef, ast.Assign, ast.AnnAssign)
        for path in files():
            for node in tree(path).body:
                text = isinstance(node, ast.Expr) and isinstance(node.value, ast.Constant)
                self.assertTrue(text or isinstance(node, allowed), (path, node.lineno))

    def test_no_floats(self):
        for path in files():
            for node in ast.walk(tree(path)):
                self.assertNotIsInstance(node, ast.Div, path)
                self.assertFalse(isinstance(node, ast.Constant) and isinstance(node.value, float), path)


if __name__ == "__main__":
    unittest.main()
