"""What can be seen of ../shared/LANGUAGE.md without reading the code whole, and the interface's places."""

import ast
import pathlib
import unittest

import castslots

FOLDER = pathlib.Path(castslots.__file__).parent
FILES = sorted(path for path in FOLDER.iterdir() if path.name != "__pycache__")
BARRED = (
    "type typing typing_extensions enum Enum IntEnum StrEnum Flag IntFlag Generic Protocol ABC ABCMeta "
    "namedtuple NamedTuple TypedDict TYPE_CHECKING abstractmethod"
).split()
INTERFACE = {
    "errors.py": {name: None for name in (
        "SlotError", "BadFamily", "NoKind", "NoPart", "NoElder", "BadAsked", "NotAsked", "NoMatch", "BadText")},
    "families.py": {
        "need_family": ["family"],
        "parts": ["family", "kind"],
        "inside": ["family", "kind", "part"],
        "knows": ["family", "kind"],
        "doer": ["family", "kind", "deed"],
    },
    "laying.py": {
        "laid": ["family", "kind"],
        "own_cells": ["family", "kind", "part"],
        "moved": ["family", "kind", "part", "elder"],
        "step": ["family", "kind", "elder"],
    },
    "tables.py": {
        "numbers": ["family", "asked"],
        "tables": ["family", "asked", "kind"],
        "call": ["family", "asked", "kind", "part", "deed"],
        "led": ["family", "asked", "kind", "part", "elder"],
        "reason": ["family", "asked", "kind", "deed"],
    },
    "changes.py": {
        "unlike": ["family", "other", "asked"],
    },
    "notes.py": {
        "written": ["family"],
        "read": ["text"],
    },
}


class Language(unittest.TestCase):
    def test_only_plain_files(self):
        for path in FILES:
            self.assertRegex(path.name, r"^[a-z0-9_]+\.py$")

    def test_signs_and_lengths(self):
        for path in FILES:
            lines = path.read_text("utf-8").split("\n")
            self.assertLessEqual(len(lines), 400, path)
            for line in lines:
                self.assertLessEqual(len(line), 120, path)
                self.assertRegex(line, "^[ -~]*$", path)
                self.assertNotIn("%", line, path)

    def test_functions_have_at_most_40_lines(self):
        for path in FILES:
            for node in ast.walk(ast.parse(path.read_text("utf-8"))):
                if isinstance(node, ast.FunctionDef):
                    self.assertLessEqual(node.end_lineno - node.lineno + 1, 40, (path, node.name))

    def test_barred_words(self):
        for path in FILES:
            for word in BARRED:
                self.assertNotRegex(path.read_text("utf-8"), rf"\b{word}\b", path)

    def test_imports_are_of_the_package(self):
        for path in FILES:
            for node in ast.walk(ast.parse(path.read_text("utf-8"))):
                self.assertNotIsInstance(node, ast.Import, path)
                if isinstance(node, ast.ImportFrom):
                    self.assertTrue(node.level == 0 and node.module.startswith("castslots."), path)

    def test_the_interface_is_defined_where_it_is_listed(self):
        for name, listed in INTERFACE.items():
            tree = ast.parse((FOLDER / name).read_text("utf-8"))
            found = {node.name: node for node in tree.body if isinstance(node, (ast.FunctionDef, ast.ClassDef))}
            for word, names in listed.items():
                with self.subTest(file=name, word=word):
                    node = found[word]
                    if names is not None:
                        self.assertEqual([argument.arg for argument in node.args.args], names)


if __name__ == "__main__":
    unittest.main()
