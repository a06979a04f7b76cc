"""Point 1: nothing here uses a clock, chance or files. And the interface: its names and arguments."""

import ast
import inspect
import pathlib
import unittest

import nestnote
from nestnote import errors, parts, reading, signs, writing

ARGUMENTS = [
    (signs.is_word, ["line"]),
    (signs.is_number, ["line"]),
    (writing.shown, ["thing"]),
    (reading.fault, ["line"]),
    (reading.read, ["line"]),
    (parts.depth, ["thing"]),
    (parts.leaves, ["thing"]),
    (parts.part_at, ["thing", "path"]),
    (parts.with_part, ["thing", "path", "part"]),
]


class PackageTest(unittest.TestCase):
    def test_names_and_arguments(self):
        for function, arguments in ARGUMENTS:
            with self.subTest(function=function.__name__):
                self.assertEqual(list(inspect.signature(function).parameters), arguments)

    def test_the_error_classes_are_there(self):
        for error in (errors.NoteError, errors.NoThing, errors.NoPart):
            self.assertTrue(issubclass(error, ValueError))

    def test_only_the_package_s_own_modules_are_imported(self):
        # Without another module and without these names there is no way to a clock, to chance or to files.
        for file in sorted(pathlib.Path(nestnote.__file__).parent.rglob("*.py")):
            for node in ast.walk(ast.parse(file.read_text())):
                with self.subTest(file=file.name):
                    self.assertNotIsInstance(node, ast.Import)
                    if isinstance(node, ast.ImportFrom):
                        self.assertEqual(node.module.split(".")[0], "nestnote")
                        self.assertEqual(node.level, 0)
                    if isinstance(node, ast.Name):
                        self.assertNotIn(node.id, ("open", "input", "print", "exec", "eval", "__import__", "id", "hash"))


if __name__ == "__main__":
    unittest.main()
