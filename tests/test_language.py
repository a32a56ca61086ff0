"""Rules of the language subset that can be read off the files of the package."""

import ast
import builtins
import functools
import pathlib
import re
import unittest

PACKAGE = pathlib.Path(__file__).resolve().parent.parent / "wormways"
FILES = sorted(path for path in PACKAGE.rglob("*") if path.is_file() and path.suffix != ".pyc")
INTERFACE = {"errors.py": ("WormError", "BadNet", "BadTable", "BadLanes", "BadPaper", "BadLetter", "BadRoom", "BadTies",
                           "BadText"),
             "orders.py": ("needs", "order", "knot", "shows"), "fewest.py": ("fewest",), "going.py": ("Going",),
             "bending.py": ("bent",), "notes.py": ("written", "read")}
METHODS = {"Going": ("send", "beat", "is_over", "held", "come")}
# The methods of builtin values that the package may call.
BUILTIN = ("append clear copy count endswith extend find get index insert isalnum isalpha isdigit islower isspace "
           "isupper items join keys ljust lower lstrip partition pop remove replace reverse rfind rjust rpartition "
           "rsplit rstrip setdefault split splitlines startswith strip update upper values zfill bit_length "
           "isascii").split()
BARRED = ("type typing typing_extensions enum Enum IntEnum StrEnum Flag IntFlag Generic Protocol ABC ABCMeta namedtuple "
          "NamedTuple TypedDict TYPE_CHECKING abstractmethod register mro elements open input law id os vars").split()
USABLE = ("len range enumerate zip min max sum abs sorted reversed int str bool list tuple dict set isinstance ord any "
          "all divmod ValueError").split()


@functools.cache
def trees():
    # The same nodes each time, so that they can be told apart.
    return [(path.name, ast.parse(path.read_text())) for path in FILES]


def nodes(kinds):
    for name, tree in trees():
        for node in ast.walk(tree):
            if isinstance(node, kinds):
                yield f"{name}:{getattr(node, 'lineno', 0)}", node


class Language(unittest.TestCase):
    def test_the_folder_holds_plain_files_only(self):
        for path in FILES:
            self.assertEqual(path.parent, PACKAGE)
            self.assertRegex(path.name, r"^[a-z0-9_]+\.py$")
        self.assertIn(PACKAGE / "__init__.py", FILES)

    def test_the_interface_is_defined_where_it_is_listed(self):
        for name, tree in trees():
            defined = {node.name for node in tree.body if isinstance(node, (ast.FunctionDef, ast.ClassDef))}
            self.assertLessEqual(set(INTERFACE.get(name, ())), defined)
        self.assertLessEqual(set(INTERFACE), {path.name for path in FILES})

    def test_methods_of_the_interface_stand_in_the_class_itself(self):
        for where, node in nodes(ast.ClassDef):
            defined = {row.name for row in node.body if isinstance(row, ast.FunctionDef)}
            self.assertLessEqual(set(METHODS.get(node.name, ())), defined, where)

    def test_no_name_is_a_method_and_an_attribute_and_all_attributes_are_assigned(self):
        methods = {row.name for where, node in nodes(ast.ClassDef) for row in node.body
                   if isinstance(row, ast.FunctionDef)}
        called = {node.func for where, node in nodes(ast.Call) if isinstance(node.func, ast.Attribute)}
        stored = {node.attr for where, node in nodes(ast.Attribute) if isinstance(node.ctx, ast.Store)}
        self.assertEqual(methods & stored, set())
        self.assertEqual((methods | stored) & {name for kind in (str, int, list, dict, set, bytes, tuple)
                                               for name in dir(kind) if not name.startswith("_")}, set())
        for where, node in nodes(ast.Attribute):
            if node in called:
                self.assertIn(node.attr, {"__init__", *methods, *BUILTIN}, where)
            else:
                self.assertIn(node.attr, stored, where)

    def test_calls_pass_no_more_than_is_allowed_by_keyword(self):
        for where, node in nodes(ast.Call):
            for keyword in node.keywords:
                self.assertIn((node.func.id, keyword.arg), (("sorted", "key"), ("min", "key")), where)

    def test_sizes_and_signs(self):
        for path in FILES:
            rows = path.read_text().split("\n")
            self.assertLessEqual(len(rows), 399)
            for at, row in enumerate(rows):
                self.assertLessEqual(len(row), 120, f"{path.name}:{at + 1}")
                self.assertRegex(row, r"^[ -~]*$", f"{path.name}:{at + 1}")
        for where, node in nodes(ast.FunctionDef):
            self.assertLessEqual(node.end_lineno - node.lineno + 1, 40, where)
            self.assertEqual(node.decorator_list, [], where)

    def test_barred_words(self):
        for path in FILES:
            words = re.findall(r"\w+", path.read_text())
            for word in BARRED:
                self.assertNotIn(word, words, path.name)

    def test_imports_are_from_the_package_by_full_names(self):
        self.assertEqual(list(nodes(ast.Import)), [])
        for where, node in nodes(ast.ImportFrom):
            self.assertEqual(node.level, 0, where)
            self.assertRegex(node.module, r"^wormways\.[a-z]+$", where)
            for alias in node.names:
                self.assertIsNone(alias.asname, where)
                self.assertNotEqual(alias.name, "*", where)

    def test_modules_hold_nothing_but_names_functions_and_classes(self):
        allowed = (ast.ImportFrom, ast.FunctionDef, ast.ClassDef, ast.Assign, ast.Expr)
        for name, tree in trees():
            for node in tree.body:
                self.assertIsInstance(node, allowed, name)
                if isinstance(node, ast.Expr):
                    self.assertIsInstance(node.value, ast.Constant, name)

    def test_no_statement_or_value_outside_the_subset(self):
        for where, node in nodes(ast.Compare):
            for sign, other in zip(node.ops, node.comparators):
                if isinstance(sign, (ast.Is, ast.IsNot)):
                    self.assertIn(getattr(other, "value", 0), (None, True, False), where)
        for where, node in nodes((ast.Global, ast.AsyncFunctionDef, ast.Await, ast.Div, ast.Try)):
            self.fail(where)
        for where, node in nodes(ast.Constant):
            self.assertNotIsInstance(node.value, (float, complex), where)
            if isinstance(node.value, str):
                self.assertNotIn("%", node.value, where)

    def test_names_are_plain_and_no_builtin_is_given_another_meaning(self):
        for where, node in nodes((ast.arg, ast.FunctionDef, ast.ClassDef, ast.Attribute, ast.Name)):
            name = next(getattr(node, key) for key in ("id", "arg", "name", "attr") if hasattr(node, key))
            if name == "__init__":
                continue
            self.assertFalse(name.startswith("_"), where)
            if isinstance(node, ast.Name) and isinstance(node.ctx, ast.Load):
                self.assertTrue(name in USABLE or not hasattr(builtins, name), where)
            elif not isinstance(node, ast.Attribute):
                self.assertFalse(hasattr(builtins, name), where)

    def test_no_local_name_is_that_of_an_import_or_a_class(self):
        for name, tree in trees():
            taken = {alias.name for node in tree.body if isinstance(node, ast.ImportFrom) for alias in node.names}
            taken |= {node.name for node in tree.body if isinstance(node, (ast.ClassDef, ast.FunctionDef))}
            for node in ast.walk(tree):
                if isinstance(node, ast.arg):
                    self.assertNotIn(node.arg, taken, name)
                if isinstance(node, ast.Name) and isinstance(node.ctx, ast.Store):
                    self.assertNotIn(node.id, taken, name)

    def test_raise_makes_its_error_on_the_spot(self):
        for where, node in nodes(ast.Raise):
            self.assertIsInstance(node.exc, ast.Call, where)
            self.assertRegex(node.exc.func.id, "^Bad", where)


if __name__ == "__main__":
    unittest.main()
