"""Some rules of the language subset that are easy to check: files, sizes, characters, words."""

import ast
import pathlib
import unittest

FOLDER = pathlib.Path(__file__).resolve().parent.parent / "sweeprota"
FILES = sorted(FOLDER.glob("*.py"))
BUILTINS = set(
    "len range enumerate zip min max sum abs sorted reversed int str bool bytes list tuple dict set "
    "isinstance ord any all divmod ValueError super property classmethod staticmethod".split()
)
METHODS = set(
    "append clear copy count endswith extend find get index insert isalnum isalpha isdigit islower isspace "
    "isupper items join keys ljust lower lstrip partition pop remove replace reverse rfind rjust rpartition "
    "rsplit rstrip setdefault split splitlines startswith strip update upper values zfill bit_length "
    "add discard __init__".split()
)
INTERFACE = {
    "errors": [
        "SweepError", "SyntaxFault", "CheckFault", "InvalidTick", "InvalidNumber", "UnknownSign", "TooLong",
        "OtherCorridor", "Contradiction", "InvalidCode", "InvalidName", "UnknownName", "InvalidOperation",
    ],
    "formatter": ["format_plan", "signs_of"],
    "machine": ["signs_on", "robots_in", "trace", "find_cycle"],
    "sweeping": ["rest_tick", "swept_for_ever", "never_swept", "count_swept", "next_swept", "longest_wait"],
    "planning": ["fewest_signs", "good_starts"],
    "comparison": ["first_difference", "first_error"],
}


def trees():
    return [(file.name, ast.parse(file.read_text("ascii"))) for file in FILES]


def nodes(kind):
    return [(name, node) for name, tree in trees() for node in ast.walk(tree) if isinstance(node, kind)]


class LanguageTest(unittest.TestCase):

    def test_only_plain_files(self):
        names = {path.name for path in FOLDER.iterdir()} - {"__pycache__"}
        self.assertEqual({file.name for file in FILES}, names)
        self.assertIn("__init__.py", names)

    def test_sizes_and_characters(self):
        for file in FILES:
            lines = file.read_text("ascii").split("\n")
            self.assertLessEqual(len(lines), 399, file.name)
            for line in lines:
                self.assertLessEqual(len(line), 120, file.name)
                self.assertTrue(all(" " <= character <= "~" for character in line), (file.name, line))

    def test_functions_are_small(self):
        for name, node in nodes(ast.FunctionDef):
            self.assertLessEqual(node.end_lineno - node.lineno + 1, 40, (name, node.name))

    def test_no_percent_sign_in_strings(self):
        for name, node in nodes(ast.Constant):
            if isinstance(node.value, str):
                self.assertNotIn("%", node.value, name)

    def test_imports_name_the_defining_file(self):
        self.assertEqual([], nodes(ast.Import))
        for name, node in nodes(ast.ImportFrom):
            if node.module == "itertools":
                self.assertEqual(["combinations"], [alias.name for alias in node.names], name)
                continue
            package, module = node.module.split(".")
            self.assertEqual("sweeprota", package, name)
            defined = self.defined_in(f"{module}.py")
            for alias in node.names:
                self.assertIn(alias.name, defined, name)
                self.assertIsNone(alias.asname)

    def defined_in(self, name):
        names = []
        for node in dict(trees())[name].body:
            if isinstance(node, ast.Assign):
                names.append(node.targets[0].id)
            elif isinstance(node, (ast.FunctionDef, ast.ClassDef)):
                names.append(node.name)
        return names

    def test_the_interface_stands_in_its_files(self):
        for module, names in INTERFACE.items():
            defined = self.defined_in(f"{module}.py")
            for name in names:
                self.assertIn(name, defined)

    def test_only_listed_builtins(self):
        builtin_names = set(dir(__builtins__)) if not isinstance(__builtins__, dict) else set(__builtins__)
        for name, node in nodes(ast.Name):
            if node.id in builtin_names:
                self.assertIn(node.id, BUILTINS, name)

    def test_only_listed_or_own_methods(self):
        own = {node.name for _, node in nodes(ast.FunctionDef)}
        for name, node in nodes(ast.Call):
            if isinstance(node.func, ast.Attribute):
                self.assertIn(node.func.attr, METHODS | own, name)

    def test_every_definition_has_a_docstring(self):
        for name, node in nodes((ast.Module, ast.ClassDef, ast.FunctionDef)):
            if getattr(node, "name", "") != "__init__":
                self.assertTrue(ast.get_docstring(node), (name, getattr(node, "name", "")))


if __name__ == "__main__":
    unittest.main()
