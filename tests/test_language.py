"""Rules of the language that no run of the program shows: they are looked up in the rows of the package."""

import ast
import pathlib
import unittest

import glimpserounds

FOLDER = pathlib.Path(glimpserounds.__file__).parent
FILES = sorted(FOLDER.glob("*.py"))


def rows_of(path):
    return ast.parse(path.read_text(encoding="utf-8"))


def decorators(method):
    return [ast.unparse(decorator) for decorator in method.decorator_list]


def properties(trees):
    """The names of all properties, each with whether every class that has it has its setter."""
    found = {}
    for tree in trees:
        for made in ast.walk(tree):
            if isinstance(made, ast.ClassDef):
                methods = [row for row in made.body if isinstance(row, ast.FunctionDef)]
                set_here = [row.name for row in methods if row.name + ".setter" in decorators(row)]
                for row in methods:
                    if "property" in decorators(row):
                        found[row.name] = found.get(row.name, True) and row.name in set_here
    return found


def assigned(tree):
    """The names of the attributes that are assigned, each with its row."""
    return [
        (node.attr, node.lineno) for node in ast.walk(tree)
        if isinstance(node, ast.Attribute) and isinstance(node.ctx, (ast.Store, ast.Del))
    ]


def without_setter(trees):
    """The assigned attributes whose name is a property without a setter in some class."""
    known = properties(trees)
    return [(name, row) for tree in trees for name, row in assigned(tree) if not known.get(name, True)]


class PropertiesTest(unittest.TestCase):
    """L5: a property is assigned only if every class that has a property of that name has its setter."""

    def test_no_row_assigns_a_property_without_a_setter(self):
        self.assertEqual(without_setter([rows_of(path) for path in FILES]), [])

    def test_the_look_up_finds_such_rows(self):
        read_only = "class A:\n @property\n def most(self): return 1\n"
        with_setter = read_only + " @most.setter\n def most(self, value): pass\n"
        other = "class B:\n def __init__(self, most):\n  self.most = most\n"
        self.assertEqual(without_setter([ast.parse(read_only), ast.parse(other)]), [("most", 3)])
        self.assertEqual(without_setter([ast.parse(other), ast.parse(read_only)]), [("most", 3)])
        self.assertEqual(without_setter([ast.parse(with_setter), ast.parse(other)]), [])
        self.assertEqual(without_setter([ast.parse(with_setter), ast.parse(read_only), ast.parse(other)]), [("most", 3)])

    def test_the_package_was_looked_up(self):
        trees = [rows_of(path) for path in FILES]
        self.assertIn("most", properties(trees))
        self.assertIn("most", [name for tree in trees for name, row in assigned(tree)])


class SizeTest(unittest.TestCase):
    """L10 and L14: how long files, functions and lines may be, and which characters they have."""

    def test_files_and_lines(self):
        for path in FILES:
            text = path.read_bytes().decode("ascii")
            lines = text.split("\n")
            with self.subTest(path.name):
                self.assertLessEqual(len(lines), 399)
                self.assertEqual([line for line in lines if len(line) > 120 or not (line + " ").isprintable()], [])

    def test_functions(self):
        for path in FILES:
            for node in ast.walk(rows_of(path)):
                if isinstance(node, ast.FunctionDef):
                    self.assertLessEqual(node.end_lineno - node.lineno + 1, 40, f"{path.name} {node.name}")


if __name__ == "__main__":
    unittest.main()
