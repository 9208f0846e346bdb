"""Rules of the language that no run of the program shows: they are looked up in the rows of the package."""

import ast
import builtins
import pathlib
import unittest

import glimpserounds

FOLDER = pathlib.Path(glimpserounds.__file__).parent
FILES = sorted(FOLDER.glob("*.py"))
# The functions and classes of the interface, by the file that lists them.
INTERFACE = {
    "signs": ("Sign", "first_unlike"),
    "records": ("Record",),
    "pairs": ("pairs", "number_of", "shortest"),
    "letters": ("letters", "sure", "can", "must"),
    "beside": ("implies", "alike", "apart", "together", "changes"),
    "moments": ("settles", "settling"),
}


def rows_of(path):
    return ast.parse(path.read_text(encoding="utf-8"))


def decorators(method):
    return [ast.unparse(decorator) for decorator in method.decorator_list]


def properties(trees):
    """The names of all properties, each with whether every class that has it has its setter."""
    found = {}
    for tree in trees:
        for made in ast.walk(tree):
            if isinstance(made, ast.ClassDef):
                methods = [row for row in made.body if isinstance(row, ast.FunctionDef)]
                set_here = [row.name for row in methods if row.name + ".setter" in decorators(row)]
                for row in methods:
                    if "property" in decorators(row):
                        found[row.name] = found.get(row.name, True) and row.name in set_here
    return found


def assigned(tree):
    """The names of the attributes that are assigned, each with its row."""
    return [
        (node.attr, node.lineno) for node in ast.walk(tree)
        if isinstance(node, ast.Attribute) and isinstance(node.ctx, (ast.Store, ast.Del))
    ]


def without_setter(trees):
    """The assigned attributes whose name is a property without a setter in some class."""
    known = properties(trees)
    return [(name, row) for tree in trees for name, row in assigned(tree) if not known.get(name, True)]


class PropertiesTest(unittest.TestCase):
    """L5: a property is assigned only if every class that has a property of that name has its setter."""

    def test_no_row_assigns_a_property_without_a_setter(self):
        self.assertEqual(without_setter([rows_of(path) for path in FILES]), [])

    def test_the_look_up_finds_such_rows(self):
        read_only = "class A:\n @property\n def most(self): return 1\n"
        with_setter = read_only + " @most.setter\n def most(self, value): pass\n"
        other = "class B:\n def __init__(self, most):\n  self.most = most\n"
        self.assertEqual(without_setter([ast.parse(read_only), ast.parse(other)]), [("most", 3)])
        self.assertEqual(without_setter([ast.parse(other), ast.parse(read_only)]), [("most", 3)])
        self.assertEqual(without_setter([ast.parse(with_setter), ast.parse(other)]), [])
        self.assertEqual(without_setter([ast.parse(with_setter), ast.parse(read_only), ast.parse(other)]), [("most", 3)])

    def test_the_package_was_looked_up(self):
        trees = [rows_of(path) for path in FILES]
        self.assertIn("most", properties(trees))
        self.assertIn("most", [name for tree in trees for name, row in assigned(tree)])


class SizeTest(unittest.TestCase):
    """L10 and L14: how long files, functions and lines may be, and which characters they have."""

    def test_files_and_lines(self):
        for path in FILES:
            text = path.read_bytes().decode("ascii")
            lines = text.split("\n")
            with self.subTest(path.name):
                self.assertLessEqual(len(lines), 399)
                self.assertEqual([line for line in lines if len(line) > 120 or not (line + " ").isprintable()], [])

    def test_functions(self):
        for path in FILES:
            for node in ast.walk(rows_of(path)):
                if isinstance(node, ast.FunctionDef):
                    self.assertLessEqual(node.end_lineno - node.lineno + 1, 40, f"{path.name} {node.name}")


def bound_by_imports(tree):
    return [name.asname or name.name for row in tree.body if isinstance(row, ast.ImportFrom) for name in row.names]


def defined(tree):
    return [row.name for row in tree.body if isinstance(row, (ast.FunctionDef, ast.ClassDef))]


def bound_at_module_level(tree):
    targets = [target.id for row in tree.body if isinstance(row, ast.Assign) for target in row.targets]
    return bound_by_imports(tree) + defined(tree) + targets


class NamesTest(unittest.TestCase):
    """L15 and L16: where names come from, and that none means two things."""

    def test_the_interface_is_defined_in_its_files(self):
        for name, wanted in INTERFACE.items():
            self.assertEqual([each for each in wanted if each not in defined(rows_of(FOLDER / (name + ".py")))], [], name)

    def test_each_name_is_bound_once_and_imported_from_where_it_is_defined(self):
        known = {"glimpserounds." + path.stem: bound_at_module_level(rows_of(path)) for path in FILES}
        for path in FILES:
            tree = rows_of(path)
            names = bound_at_module_level(tree)
            self.assertEqual(sorted(names), sorted(set(names)), path.name)
            self.assertEqual([row for row in ast.walk(tree) if isinstance(row, ast.Import)], [])
            for row in tree.body:
                if isinstance(row, ast.ImportFrom):
                    imported_there = bound_by_imports(rows_of(FOLDER / (row.module.split(".")[1] + ".py")))
                    for name in row.names:
                        self.assertIn(name.name, known[row.module], path.name)
                        self.assertNotIn(name.name, imported_there, path.name)

    def test_no_import_is_left_over(self):
        for path in FILES:
            tree = rows_of(path)
            read = {node.id for node in ast.walk(tree) if isinstance(node, ast.Name)}
            self.assertEqual([name for name in bound_by_imports(tree) if name not in read], [], path.name)

    def test_no_name_of_a_function_means_something_else(self):
        for path in FILES:
            tree = rows_of(path)
            classes = [row.name for row in tree.body if isinstance(row, ast.ClassDef)]
            taken = {*bound_by_imports(tree), *classes, *dir(builtins)}
            for node in ast.walk(tree):
                if isinstance(node, ast.arg):
                    self.assertNotIn(node.arg, taken, path.name)
                if isinstance(node, ast.Name) and isinstance(node.ctx, ast.Store):
                    self.assertNotIn(node.id, taken, path.name)

    def test_lists_instead_of_generators(self):
        """L5 Operators and L7, as records have an operator and signs and records compare."""
        for path in FILES:
            kinds = (ast.GeneratorExp, ast.Yield, ast.YieldFrom, ast.Lambda, ast.Global)
            self.assertEqual([node.lineno for node in ast.walk(rows_of(path)) if isinstance(node, kinds)], [], path.name)


if __name__ == "__main__":
    unittest.main()
