"""The form of the package's files: what of the language's rules can be counted (L1, L10, L14)."""

import ast
import os
import unittest

import leasefiles

FOLDER = os.path.dirname(leasefiles.__file__)


def file_names():
    return [name for name in sorted(os.listdir(FOLDER)) if name != "__pycache__"]


def source(name):
    with open(os.path.join(FOLDER, name), "rb") as file:
        return file.read()


class Form(unittest.TestCase):
    def test_the_folder_has_python_files_alone(self):
        self.assertIn("__init__.py", file_names())
        for name in file_names():
            self.assertTrue(name.endswith(".py"), name)
            self.assertEqual(name, name.lower())

    def test_signs(self):
        for name in file_names():
            for sign in source(name):
                self.assertTrue(sign == 10 or 32 <= sign <= 126, (name, sign))

    def test_sizes(self):
        for name in file_names():
            rows = source(name).decode("ascii").splitlines()
            self.assertLessEqual(len(rows), 399, name)
            for row in rows:
                self.assertLessEqual(len(row), 120, (name, row))

    def test_lengths_of_functions(self):
        for name in file_names():
            for node in ast.walk(ast.parse(source(name))):
                if isinstance(node, ast.FunctionDef):
                    self.assertLessEqual(node.end_lineno - node.lineno + 1, 40, (name, node.name))


if __name__ == "__main__":
    unittest.main()
