"""Rules of the language that no run of the program shows: they are looked up in the rows of the package."""

import ast
import builtins
import pathlib
import re
import unittest

import glimpserounds

FOLDER = pathlib.Path(glimpserounds.__file__).parent
FILES = sorted(FOLDER.glob("*.py"))
# The functions and classes of the interface, by the file that lists them.
INTERFACE = {
    "signs": ("Sign", "first_unlike"),
    "records": ("Record",),
    "pairs": ("pairs", "number_of", "shortest"),
    "letters": ("letters", "sure", "can", "must"),
    "beside": ("implies", "alike", "apart", "together", "changes"),
    "moments": ("settles", "settling"),
    "books": ("Book",),
    "checker": ("accepts",),
    "certificates": ("certify_barred", "certify_can", "certify_must", "certify_implies", "certify_apart"),
    "console": ("Console",),
}
# The methods and properties of its classes.
METHODS = {
    "Sign": ("__init__", "text", "pace", "window", "__eq__", "__len__", "__str__", "__repr__"),
    "Record": (
        "__init__", "width", "dead", "least", "most", "paces", "groups", "glances", "told", "seen", "of", "fits", "joined",
        "__eq__", "__len__", "__repr__",
    ),
    "Book": (
        "__init__", "__setitem__", "__getitem__", "__contains__", "__len__", "names", "claims", "see", "drop", "claim",
        "lift", "undo", "changes", "do_all", "trial", "tried",
    ),
    "Console": ("__init__", "book", "say"),
}
BUILTINS = (
    "len range enumerate zip min max sum abs sorted reversed int str bool list tuple dict isinstance ord repr any all "
    "divmod property staticmethod ValueError LookupError ArithmeticError TypeError AttributeError"
).split()
BUILTIN_METHODS = (
    "append clear copy count endswith extend find get index insert isalnum isalpha isdigit islower isspace isupper items "
    "join keys ljust lower lstrip partition pop remove replace reverse rfind rjust rpartition rsplit rstrip setdefault "
    "split splitlines startswith strip update upper values zfill bit_length removeprefix removesuffix"
).split()
NOT_IN_FILES = (
    "type typing typing_extensions enum Enum IntEnum StrEnum Flag IntFlag Generic Protocol ABC ABCMeta namedtuple "
    "NamedTuple TypedDict TYPE_CHECKING abstractmethod"
).split()
NOT_AS_NAMES = (
    "register mro elements open input law version_info with_traceback add_note attrgetter breakpoint builtins compile "
    "copyright credits delattr dir eval exec exit gc getattr globals hasattr help id importlib license locals "
    "methodcaller os quit setattr super type vars sys format format_map"
).split()


def rows_of(path):
    return ast.parse(path.read_text(encoding="utf-8"))


def decorators(method):
    return [ast.unparse(decorator) for decorator in method.decorator_list]


def properties(trees):
    """The names of all properties, each with whether every class that has it has its setter."""
    found = {}
    for tree in trees:
        for made in ast.walk(tree):
            if isinstance(made, ast.ClassDef):
                methods = [row for row in made.body if isinstance(row, ast.FunctionDef)]
                set_here = [row.name for row in methods if row.name + ".setter" in decorators(row)]
                for row in methods:
                    if "property" in decorators(row):
                        found[row.name] = found.get(row.name, True) and row.name in set_here
    return found


def assigned(tree):
    """The names of the attributes that are assigned, each with its row."""
    return [
        (node.attr, node.lineno) for node in ast.walk(tree)
        if isinstance(node, ast.Attribute) and isinstance(node.ctx, (ast.Store, ast.Del))
    ]


def without_setter(trees):
    """The assigned attributes whose name is a property without a setter in some class."""
    known = properties(trees)
    return [(name, row) for tree in trees for name, row in assigned(tree) if not known.get(name, True)]


class PropertiesTest(unittest.TestCase):
    """L5: a property is assigned only if every class that has a property of that name has its setter."""

    def test_no_row_assigns_a_property_without_a_setter(self):
        self.assertEqual(without_setter([rows_of(path) for path in FILES]), [])

    def test_the_look_up_finds_such_rows(self):
        read_only = "class A:\n @property\n def most(self): return 1\n"
        with_setter = read_only + " @most.setter\n def most(self, value): pass\n"
        other = "class B:\n def __init__(self, most):\n  self.most = most\n"
        self.assertEqual(without_setter([ast.parse(read_only), ast.parse(other)]), [("most", 3)])
        self.assertEqual(without_setter([ast.parse(other), ast.parse(read_only)]), [("most", 3)])
        self.assertEqual(without_setter([ast.parse(with_setter), ast.parse(other)]), [])
        self.assertEqual(without_setter([ast.parse(with_setter), ast.parse(read_only), ast.parse(other)]), [("most", 3)])

    def test_the_package_was_looked_up(self):
        trees = [rows_of(path) for path in FILES]
        self.assertIn("most", properties(trees))
        self.assertIn("most", [name for tree in trees for name, row in assigned(tree)])


class SizeTest(unittest.TestCase):
    """L10 and L14: how long files, functions and lines may be, and which characters they have."""

    def test_files_and_lines(self):
        for path in FILES:
            text = path.read_bytes().decode("ascii")
            lines = text.split("\n")
            with self.subTest(path.name):
                self.assertLessEqual(len(lines), 399)
                self.assertEqual([line for line in lines if len(line) > 120 or not (line + " ").isprintable()], [])

    def test_functions(self):
        for path in FILES:
            for node in ast.walk(rows_of(path)):
                if isinstance(node, ast.FunctionDef):
                    self.assertLessEqual(node.end_lineno - node.lineno + 1, 40, f"{path.name} {node.name}")


def bound_by_imports(tree):
    return [name.asname or name.name for row in tree.body if isinstance(row, ast.ImportFrom) for name in row.names]


def defined(tree):
    return [row.name for row in tree.body if isinstance(row, (ast.FunctionDef, ast.ClassDef))]


def bound_at_module_level(tree):
    targets = [target.id for row in tree.body if isinstance(row, ast.Assign) for target in row.targets]
    return bound_by_imports(tree) + defined(tree) + targets


def classes_of(trees):
    return [row for tree in trees for row in tree.body if isinstance(row, ast.ClassDef)]


def methods_of(made):
    return [row for row in made.body if isinstance(row, ast.FunctionDef)]


class ClassesTest(unittest.TestCase):
    """L5, L6 With, L18 and L26: what classes have, and what the names of methods and attributes mean."""

    def setUp(self):
        self.trees = [rows_of(path) for path in FILES]
        self.classes = classes_of(self.trees)

    def test_the_methods_of_the_interface_stand_in_the_class_itself(self):
        by_name = {made.name: [row.name for row in methods_of(made)] for made in self.classes}
        for name, wanted in METHODS.items():
            self.assertEqual([each for each in wanted if each not in by_name[name]], [], name)

    def test_no_name_is_a_method_here_and_an_attribute_there(self):
        methods = {
            row.name for made in self.classes for row in methods_of(made)
            if not {"property", row.name + ".setter"} & set(decorators(row))
        }
        attributes = {name for tree in self.trees for name, row in assigned(tree)}
        self.assertEqual(methods & (attributes | set(properties(self.trees))), set())
        stored = attributes | set(properties(self.trees))
        self.assertEqual([name for name in stored if name in dir(str) + dir(list) + dir(dict) and name != "index"], [])

    def test_each_attribute_is_assigned_or_a_method(self):
        methods = {row.name for made in self.classes for row in methods_of(made)}
        known = {name for tree in self.trees for name, row in assigned(tree)} | methods | set(BUILTIN_METHODS)
        read = {node.attr for tree in self.trees for node in ast.walk(tree) if isinstance(node, ast.Attribute)}
        # A decorator of a property.
        self.assertEqual(read - known, {"setter"})

    def test_no_method_is_read_off_a_class(self):
        """So that an error may keep an attribute with the name of a property of a record."""
        names = {made.name for made in self.classes}
        for tree in self.trees:
            for node in ast.walk(tree):
                if isinstance(node, ast.Attribute) and isinstance(node.value, ast.Name):
                    self.assertNotIn(node.value.id, names)

    def test_what_can_be_asked_for_by_a_key_is_not_iterated_over(self):
        for made in self.classes:
            methods = {row.name: row for row in methods_of(made)}
            if "__getitem__" in methods:
                rows = methods["__iter__"].body
                self.assertEqual([len(rows), ast.unparse(rows[0])[:16]], [1, "raise TypeError("])

    def test_trials_end_by_assigning_attributes_alone(self):
        found = 0
        for made in self.classes:
            for row in methods_of(made):
                if row.name == "__exit__":
                    found += 1
                    self.assertEqual([arg.arg for arg in row.args.args], ["self", "kind", "value", "trace"])
                    for line in row.body:
                        self.assertIsInstance(line, ast.Assign)
                        self.assertIsInstance(line.value, ast.Attribute)
                        self.assertEqual([type(target) for target in line.targets], [ast.Attribute])
        self.assertEqual(found, 1)

    def test_own_errors_alone_are_caught(self):
        own = {made.name for made in self.classes}
        for tree in self.trees:
            for node in ast.walk(tree):
                if isinstance(node, ast.ExceptHandler):
                    caught = node.type.elts if isinstance(node.type, ast.Tuple) else [node.type]
                    self.assertEqual([each.id for each in caught if each.id not in own], [])
                if isinstance(node, ast.Try):
                    self.assertEqual(node.finalbody, [])


class WordsTest(unittest.TestCase):
    """L8, L12, L17, L20, L24, L25 and L27: words, names and signs that may stand in a file."""

    def test_words_that_stand_nowhere(self):
        for path in FILES:
            words = re.findall("[A-Za-z_0-9]+", path.read_text(encoding="ascii"))
            self.assertEqual([word for word in words if word in NOT_IN_FILES], [], path.name)
            self.assertEqual([word for word in words if re.search("dataclass|overload|contextmanager", word)], [])

    def test_names(self):
        for path in FILES:
            for node in ast.walk(rows_of(path)):
                name = getattr(node, "id", getattr(node, "attr", getattr(node, "arg", getattr(node, "name", None))))
                if isinstance(name, str):
                    self.assertNotIn(name, NOT_AS_NAMES, path.name)
                    if not isinstance(node, ast.FunctionDef):
                        self.assertFalse(name.startswith("_"), (path.name, name))

    def test_builtins_and_their_methods(self):
        methods = {row.name for made in classes_of([rows_of(path) for path in FILES]) for row in methods_of(made)}
        for path in FILES:
            tree = rows_of(path)
            for node in ast.walk(tree):
                if isinstance(node, ast.Name) and node.id in dir(builtins):
                    self.assertIn(node.id, BUILTINS, path.name)
                if isinstance(node, ast.Call) and isinstance(node.func, ast.Attribute):
                    self.assertIn(node.func.attr, {*methods, *BUILTIN_METHODS}, path.name)

    def test_is_stands_beside_none_and_truths_alone(self):
        for path in FILES:
            for node in ast.walk(rows_of(path)):
                if isinstance(node, ast.Compare):
                    for sign, side in zip(node.ops, node.comparators):
                        if isinstance(sign, (ast.Is, ast.IsNot)):
                            self.assertIsInstance(side, ast.Constant, path.name)

    def test_signs_and_strings(self):
        barred = (ast.Set, ast.SetComp, ast.Div, ast.Await, ast.AsyncFunctionDef, ast.Match, ast.NamedExpr, ast.Delete)
        for path in FILES:
            for node in ast.walk(rows_of(path)):
                self.assertNotIsInstance(node, barred, path.name)
                if isinstance(node, ast.Constant):
                    self.assertNotIsInstance(node.value, (float, complex, bytes), path.name)
                    if isinstance(node.value, str):
                        self.assertNotIn("%", node.value)
                        self.assertFalse(node.value.startswith("__"))

    def test_a_table_at_module_level_is_read_on_the_spot_or_copied(self):
        for path in FILES:
            tree = rows_of(path)
            tables = [row.targets[0].id for row in tree.body if isinstance(row, ast.Assign) and isinstance(row.value, ast.Dict)]
            on_the_spot = [
                id(part) for node in ast.walk(tree) for part in ast.iter_child_nodes(node)
                if isinstance(node, (ast.Subscript, ast.Attribute, ast.Compare))
                or (isinstance(node, ast.Call) and ast.unparse(node.func) == "dict")
            ]
            for node in ast.walk(tree):
                if isinstance(node, ast.Name) and node.id in tables and isinstance(node.ctx, ast.Load):
                    self.assertIn(id(node), on_the_spot, f"{path.name} {node.lineno}")


class ImportsTest(unittest.TestCase):
    """L16: no two files import from each other, neither directly nor through other files."""

    def test_no_circle(self):
        above = {
            path.stem: {row.module.split(".")[1] for row in rows_of(path).body if isinstance(row, ast.ImportFrom)}
            for path in FILES
        }
        while above:
            free = [name for name, needed in above.items() if not needed & set(above)]
            self.assertNotEqual(free, [], above)
            above = {name: needed for name, needed in above.items() if name not in free}


class NamesTest(unittest.TestCase):
    """L15 and L16: where names come from, and that none means two things."""

    def test_the_interface_is_defined_in_its_files(self):
        for name, wanted in INTERFACE.items():
            self.assertEqual([each for each in wanted if each not in defined(rows_of(FOLDER / (name + ".py")))], [], name)

    def test_each_name_is_bound_once_and_imported_from_where_it_is_defined(self):
        known = {"glimpserounds." + path.stem: bound_at_module_level(rows_of(path)) for path in FILES}
        for path in FILES:
            tree = rows_of(path)
            names = bound_at_module_level(tree)
            self.assertEqual(sorted(names), sorted(set(names)), path.name)
            self.assertEqual([row for row in ast.walk(tree) if isinstance(row, ast.Import)], [])
            for row in tree.body:
                if isinstance(row, ast.ImportFrom):
                    imported_there = bound_by_imports(rows_of(FOLDER / (row.module.split(".")[1] + ".py")))
                    for name in row.names:
                        self.assertIn(name.name, known[row.module], path.name)
                        self.assertNotIn(name.name, imported_there, path.name)

    def test_no_import_is_left_over(self):
        for path in FILES:
            tree = rows_of(path)
            read = {node.id for node in ast.walk(tree) if isinstance(node, ast.Name)}
            self.assertEqual([name for name in bound_by_imports(tree) if name not in read], [], path.name)

    def test_no_name_of_a_function_means_something_else(self):
        for path in FILES:
            tree = rows_of(path)
            classes = [row.name for row in tree.body if isinstance(row, ast.ClassDef)]
            taken = {*bound_by_imports(tree), *classes, *dir(builtins)}
            for node in ast.walk(tree):
                if isinstance(node, ast.arg):
                    self.assertNotIn(node.arg, taken, path.name)
                if isinstance(node, ast.Name) and isinstance(node.ctx, ast.Store):
                    self.assertNotIn(node.id, taken, path.name)

    def test_lists_instead_of_generators(self):
        """L5 Operators and L7, as records have an operator and signs and records compare."""
        for path in FILES:
            kinds = (ast.GeneratorExp, ast.Yield, ast.YieldFrom, ast.Lambda, ast.Global)
            self.assertEqual([node.lineno for node in ast.walk(rows_of(path)) if isinstance(node, kinds)], [], path.name)


if __name__ == "__main__":
    unittest.main()
