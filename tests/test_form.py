"""What can be seen of the form of the code: sizes, characters, names and calls."""

import ast
import pathlib
import unittest
import warnings

PACKAGE = pathlib.Path(__file__).resolve().parent.parent / "wonbyturns"
FILES = sorted(PACKAGE.rglob("*.py"))

BUILTINS = set(
    "len range enumerate zip min max sum abs sorted reversed int str bool list tuple dict set isinstance ord repr"
    " any all divmod map iter next property classmethod staticmethod super".split()
)
DECORATORS = {"property", "classmethod", "staticmethod"}


class Form(unittest.TestCase):
    def each_tree(self):
        """The files with their syntax trees."""
        return [(path, ast.parse(path.read_text())) for path in FILES]

    def test_the_package_holds_files_of_code_alone(self):
        others = [path for path in PACKAGE.rglob("*") if path.is_file() and path.suffix not in (".py", ".pyc")]
        self.assertEqual(others, [])
        for folder in {path.parent for path in FILES}:
            self.assertTrue((folder / "__init__.py").exists(), folder)

    def test_lines(self):
        for path in FILES:
            text = path.read_text()
            with self.subTest(path.name):
                self.assertLessEqual(len(text.splitlines()), 399)
                self.assertLessEqual(max(map(len, text.split("\n"))), 120)
                self.assertEqual([sign for sign in text if sign != "\n" and not " " <= sign <= "~"], [])

    def test_python_warns_of_nothing(self):
        for path in FILES:
            with warnings.catch_warnings():
                warnings.simplefilter("error")
                compile(path.read_text(), str(path), "exec")

    def test_functions_are_short(self):
        for path, tree in self.each_tree():
            for node in ast.walk(tree):
                if isinstance(node, ast.FunctionDef):
                    self.assertLessEqual(node.end_lineno - node.lineno + 1, 40, f"{path}: {node.name}")
                    names = {one.id for one in node.decorator_list if isinstance(one, ast.Name)}
                    self.assertLessEqual(names, DECORATORS)

    def test_there_is_no_float(self):
        for path, tree in self.each_tree():
            for node in ast.walk(tree):
                self.assertNotIsInstance(node, ast.Div, path)
                if isinstance(node, ast.Constant):
                    self.assertNotIsInstance(node.value, float, path)

    def test_names_of_builtins_keep_their_meaning(self):
        for path, tree in self.each_tree():
            for node in ast.walk(tree):
                if isinstance(node, ast.Name) and isinstance(node.ctx, ast.Store):
                    self.assertNotIn(node.id, BUILTINS, path)
                if isinstance(node, ast.arg):
                    self.assertNotIn(node.arg, BUILTINS, path)

    def test_imports_name_the_package_or_a_few_functions(self):
        for path, tree in self.each_tree():
            for node in ast.walk(tree):
                self.assertNotIsInstance(node, ast.Import)
                if isinstance(node, ast.ImportFrom):
                    self.assertEqual(node.level, 0)
                    library = ("heapq", "math", "itertools", "collections", "__future__")
                    self.assertTrue(node.module in library or node.module.startswith("wonbyturns."))
                    self.assertNotIn("*", [one.name for one in node.names])

    def test_names_of_imports_and_classes_keep_their_meaning(self):
        for path, tree in self.each_tree():
            own = {one.name for node in tree.body if isinstance(node, ast.ImportFrom) for one in node.names}
            own |= {node.name for node in tree.body if isinstance(node, ast.ClassDef)}
            for node in ast.walk(tree):
                if isinstance(node, ast.Name) and isinstance(node.ctx, ast.Store):
                    self.assertNotIn(node.id, own, path)
                if isinstance(node, ast.arg):
                    self.assertNotIn(node.arg, own, path)

    def test_lists_are_made_at_once_and_sorted_anew(self):
        for path, tree in self.each_tree():
            for node in ast.walk(tree):
                self.assertNotIsInstance(node, (ast.GeneratorExp, ast.Global, ast.Lambda, ast.NamedExpr), path)
                if isinstance(node, ast.Attribute):
                    self.assertNotIn(node.attr, ("sort", "keys", "format"), path)
                if isinstance(node, ast.Call) and isinstance(node.func, ast.Name):
                    self.assertNotIn(node.func.id, ("reversed", "map", "next", "print", "chr", "pow"), path)
                if isinstance(node, ast.For) or isinstance(node, ast.comprehension):
                    self.assertNotIsInstance(node.iter, (ast.Set, ast.SetComp), path)

    def test_no_two_files_import_from_each_other(self):
        needs = {}
        for path, tree in self.each_tree():
            name = ".".join(path.relative_to(PACKAGE.parent).with_suffix("").parts)
            needs[name] = {node.module for node in tree.body if isinstance(node, ast.ImportFrom)}
        while needs:
            free = {name for name in needs if not needs[name] & set(needs)}
            self.assertTrue(free, needs)
            needs = {name: needs[name] for name in needs if name not in free}

    def test_a_class_with_items_tells_how_it_is_iterated_over(self):
        for path, tree in self.each_tree():
            for node in ast.walk(tree):
                if isinstance(node, ast.ClassDef):
                    methods = {one.name for one in node.body if isinstance(one, ast.FunctionDef)}
                    if "__getitem__" in methods:
                        self.assertIn("__iter__", methods, path)


if __name__ == "__main__":
    unittest.main()
