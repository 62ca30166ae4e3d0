"""The rules of LANGUAGE.md that a look at the package's files can see."""

import ast
import builtins
import pathlib
import unittest
import warnings

FOLDER = pathlib.Path(__file__).resolve().parent.parent / "rootrooms"
FILES = sorted(FOLDER.rglob("*.py"))

BUILTINS = {
    "len", "range", "enumerate", "zip", "min", "max", "sum", "abs", "sorted", "reversed", "int", "str", "bool",
    "bytes", "list", "tuple", "dict", "set", "isinstance", "ord", "repr", "any", "all", "divmod", "Exception",
    "ValueError", "TypeError", "KeyError", "IndexError", "LookupError", "ZeroDivisionError",
}
METHODS = {"__init__", "__eq__", "__repr__", "__str__", "__len__"}
NOT_USED = (
    ast.Import, ast.Global, ast.Div, ast.MatMult, ast.Pow,
    ast.AsyncFunctionDef, ast.AsyncFor, ast.AsyncWith, ast.Await,
    # Beside a class with __eq__ these are lists.
    ast.GeneratorExp,
)

TEXTS = [(path.name, path.read_text("utf-8")) for path in FILES]
TREES = [(name, ast.parse(text)) for name, text in TEXTS]


def parts(kinds):
    """Return each part of these kinds in any file, with the file's name and its line."""
    return [(f"{name}:{node.lineno}", node) for name, tree in TREES for node in ast.walk(tree)
            if isinstance(node, kinds)]


def defined(module):
    """Return the names that a file of the package defines, by the file's full name."""
    tree = dict(TREES)[f"{module.split('.')[1]}.py"]
    return {node.name for node in tree.body if isinstance(node, (ast.FunctionDef, ast.ClassDef))}


class LanguageTest(unittest.TestCase):

    def test_there_are_files_and_nothing_else(self):
        self.assertIn(FOLDER / "errors.py", FILES)
        for path in FOLDER.iterdir():
            if path.name != "__pycache__":
                self.assertRegex(path.name, r"\A[a-z_][a-z0-9_]*\.py\Z")

    def test_characters_and_sizes(self):
        for name, text in TEXTS:
            self.assertTrue(all(sign == "\n" or " " <= sign <= "~" for sign in text), name)
            lines = text.split("\n")
            self.assertLessEqual(len(lines), 400, name)
            self.assertLessEqual(max(len(line) for line in lines), 120, name)
        for place, node in parts(ast.FunctionDef):
            self.assertLessEqual(node.end_lineno - node.lineno + 1, 40, place)

    def test_python_warns_of_nothing(self):
        with warnings.catch_warnings():
            warnings.simplefilter("error")
            for name, text in TEXTS:
                compile(text, name, "exec")

    def test_what_stands_at_module_level(self):
        for name, tree in TREES:
            self.assertIsNotNone(ast.get_docstring(tree), name)
            for node in tree.body[1:]:
                self.assertIsInstance(node, (ast.ImportFrom, ast.FunctionDef, ast.ClassDef, ast.Assign), name)

    def test_imports_are_from_the_file_that_defines_the_name(self):
        for place, node in parts(ast.ImportFrom):
            self.assertEqual(node.level, 0, place)
            self.assertRegex(node.module, r"\Arootrooms\.[a-z_]+\Z", place)
            for name in node.names:
                self.assertIsNone(name.asname, place)
                self.assertIn(name.name, defined(node.module), place)

    def test_every_import_is_used(self):
        for file, tree in TREES:
            read = {node.id for node in ast.walk(tree) if isinstance(node, ast.Name)}
            for node in tree.body:
                for name in node.names if isinstance(node, ast.ImportFrom) else []:
                    self.assertIn(name.name, read, file)

    def test_statements_and_values(self):
        self.assertEqual(parts(NOT_USED), [])
        for place, node in parts(ast.FunctionDef):
            self.assertEqual(node.decorator_list, [], place)
        for place, node in parts(ast.Constant):
            self.assertNotIsInstance(node.value, (float, complex), place)

    def test_sets_are_sorted_on_the_spot(self):
        spots = {id(part) for _, node in parts(ast.Call) if getattr(node.func, "id", None) == "sorted"
                 for part in node.args}
        for place, node in parts((ast.Set, ast.SetComp)):
            self.assertIn(id(node), spots, place)

    def test_no_variable_has_the_name_of_an_import(self):
        for file, tree in TREES:
            imported = {name.name for node in tree.body if isinstance(node, ast.ImportFrom) for name in node.names}
            bound = {node.id for node in ast.walk(tree) if isinstance(node, ast.Name) and isinstance(node.ctx, ast.Store)}
            bound |= {node.arg for node in ast.walk(tree) if isinstance(node, ast.arg)}
            self.assertEqual(imported & bound, set(), file)

    def test_names(self):
        for place, node in parts(ast.Name):
            if node.id in vars(builtins):
                self.assertIn(node.id, BUILTINS, place)
                self.assertIsInstance(node.ctx, ast.Load, place)
        for place, node in parts(ast.arg):
            self.assertNotIn(node.arg, vars(builtins), place)
        for place, node in parts((ast.FunctionDef, ast.ClassDef)):
            self.assertNotIn(node.name, vars(builtins), place)
            if node.name not in METHODS:
                self.assertRegex(node.name, r"\A_?[a-zA-Z][a-zA-Z0-9_]*\Z", place)

    def test_strings(self):
        for place, node in parts(ast.Constant):
            if isinstance(node.value, str):
                self.assertNotIn("%", node.value, place)


if __name__ == "__main__":
    unittest.main()
