"""Some rules of the language subset that are easy to check: files, sizes, characters, words."""

import ast
import builtins
import importlib
import inspect
import pathlib
import unittest

FOLDER = pathlib.Path(__file__).resolve().parent.parent / "sweeprota"
FILES = sorted(FOLDER.glob("*.py"))
BUILTINS = set(
    "len range enumerate zip min max sum abs sorted reversed int str bool bytes list tuple dict set "
    "isinstance ord any all divmod ValueError super property classmethod staticmethod".split()
)
METHODS = set(
    "append clear copy count endswith extend find get index insert isalnum isalpha isdigit islower isspace "
    "isupper items join keys ljust lower lstrip partition pop remove replace reverse rfind rjust rpartition "
    "rsplit rstrip setdefault split splitlines startswith strip update upper values zfill bit_length "
    "add discard __init__".split()
)
INTERFACE = {
    "errors": [
        "SweepError", "SyntaxFault", "CheckFault", "InvalidTick", "InvalidNumber", "UnknownSign", "TooLong",
        "OtherCorridor", "Contradiction", "InvalidCode", "InvalidName", "UnknownName", "InvalidOperation",
    ],
    "formatter": ["format_plan", "signs_of"],
    "machine": ["signs_on", "robots_in", "trace", "find_cycle"],
    "sweeping": ["rest_tick", "swept_for_ever", "never_swept", "count_swept", "next_swept", "longest_wait"],
    "planning": ["fewest_signs", "good_starts"],
    "comparison": ["first_difference", "first_error"],
    "watching": ["Watcher"],
    "encoding": ["encode", "decode"],
    "corridor": ["Corridor"],
}
MEMBERS = {
    "Watcher": ["see", "see_from", "starts", "history", "possible"],
    "Corridor": [
        "step", "put", "turn", "undo", "redo", "passed", "robots_now", "signs_now", "sweeps", "operations",
        "save", "restore", "batch", "replay",
    ],
}
PROPERTIES = ["starts", "history", "passed", "robots_now", "signs_now", "sweeps", "operations"]
# The arguments of all functions, classes and methods of the interface.
ARGUMENTS = {
    "format_plan": "plan", "signs_of": "plan",
    "signs_on": "plan tick", "robots_in": "plan tick", "trace": "plan first last", "find_cycle": "plan",
    "rest_tick": "plan", "swept_for_ever": "plan", "never_swept": "plan", "count_swept": "plan tile ticks",
    "next_swept": "plan tile tick", "longest_wait": "plan",
    "fewest_signs": "plan limit", "good_starts": "plan",
    "first_difference": "plan other", "first_error": "plan log",
    "Watcher": "plan tile", "see": "tick sign", "see_from": "first *signs", "possible": "tick",
    "encode": "plan", "decode": "code",
    "Corridor": "plan", "step": "count", "put": "tile sign", "turn": "number", "undo": "", "redo": "",
    "save": "name", "restore": "name", "batch": "operations", "replay": "plan operations",
}


def trees():
    return [(file.name, ast.parse(file.read_text("ascii"))) for file in FILES]


def nodes(kind):
    return [(name, node) for name, tree in trees() for node in ast.walk(tree) if isinstance(node, kind)]


class LanguageTest(unittest.TestCase):

    def test_only_plain_files(self):
        names = {path.name for path in FOLDER.iterdir()} - {"__pycache__"}
        self.assertEqual({file.name for file in FILES}, names)
        self.assertIn("__init__.py", names)

    def test_sizes_and_characters(self):
        for file in FILES:
            lines = file.read_text("ascii").split("\n")
            self.assertLessEqual(len(lines), 399, file.name)
            for line in lines:
                self.assertLessEqual(len(line), 120, file.name)
                self.assertTrue(all(" " <= character <= "~" for character in line), (file.name, line))

    def test_functions_are_small(self):
        for name, node in nodes(ast.FunctionDef):
            self.assertLessEqual(node.end_lineno - node.lineno + 1, 40, (name, node.name))

    def test_no_percent_sign_in_strings(self):
        for name, node in nodes(ast.Constant):
            if isinstance(node.value, str):
                self.assertNotIn("%", node.value, name)

    def test_imports_name_the_defining_file(self):
        self.assertEqual([], nodes(ast.Import))
        for name, node in nodes(ast.ImportFrom):
            if node.module == "itertools":
                self.assertEqual(["combinations"], [alias.name for alias in node.names], name)
                continue
            package, module = node.module.split(".")
            self.assertEqual("sweeprota", package, name)
            defined = self.defined_in(f"{module}.py")
            for alias in node.names:
                self.assertIn(alias.name, defined, name)
                self.assertIsNone(alias.asname)

    def defined_in(self, name):
        names = []
        for node in dict(trees())[name].body:
            if isinstance(node, ast.Assign):
                names.append(node.targets[0].id)
            elif isinstance(node, (ast.FunctionDef, ast.ClassDef)):
                names.append(node.name)
        return names

    def test_the_interface_stands_in_its_files(self):
        for module, names in INTERFACE.items():
            defined = self.defined_in(f"{module}.py")
            for name in names:
                self.assertIn(name, defined)

    def interface(self):
        """All functions, classes and members of the interface, by their names, but for the errors."""
        found = {}
        for module, names in INTERFACE.items():
            for name in names if module != "errors" else []:
                found[name] = getattr(importlib.import_module(f"sweeprota.{module}"), name)
        for owner, names in MEMBERS.items():
            # In the class itself, not in a base class; getattr binds the class method.
            found.update({name: getattr(found[owner], name) for name in names if name in vars(found[owner])})
        return found

    def test_the_interface_has_its_arguments(self):
        interface = self.interface()
        self.assertEqual(set(ARGUMENTS) | set(PROPERTIES), set(interface))
        for name, words in ARGUMENTS.items():
            with self.subTest(name):
                arguments = [str(each) for each in inspect.signature(interface[name]).parameters.values()]
                self.assertEqual(words.split(), [word for word in arguments if word != "self"])

    def test_the_interface_has_its_properties(self):
        interface = self.interface()
        for name in PROPERTIES:
            self.assertIs(property, type(interface[name]))
            self.assertIsNone(interface[name].fset)

    def test_only_listed_builtins(self):
        # A doctest leaves its last result as the builtin _.
        builtin_names = set(dir(builtins)) - {"_"}
        for name, node in nodes(ast.Name):
            if node.id in builtin_names:
                self.assertIn(node.id, BUILTINS, name)

    def test_only_listed_or_own_methods(self):
        own = {node.name for _, node in nodes(ast.FunctionDef)}
        for name, node in nodes(ast.Call):
            if isinstance(node.func, ast.Attribute):
                self.assertIn(node.func.attr, METHODS | own, name)

    def test_every_definition_has_a_docstring(self):
        for name, node in nodes((ast.Module, ast.ClassDef, ast.FunctionDef)):
            if getattr(node, "name", "") != "__init__":
                self.assertTrue(ast.get_docstring(node), (name, getattr(node, "name", "")))


if __name__ == "__main__":
    unittest.main()
