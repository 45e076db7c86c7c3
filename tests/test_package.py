"""What the interface says of the package as a whole: it prints, reads and imports nothing."""

import ast
import pathlib
import unittest

import powersums

FOLDER = pathlib.Path(powersums.__file__).parent
OUTWARD = ("print", "input", "open", "eval", "exec", "compile", "__import__", "breakpoint")


def files():
    return sorted(FOLDER.rglob("*.py"))


def nodes(file):
    return list(ast.walk(ast.parse(file.read_text(encoding="utf-8"))))


class Package(unittest.TestCase):
    def test_has_its_files(self):
        self.assertEqual(FOLDER.name, "powersums")
        self.assertLessEqual({"__init__.py", "desk.py"}, {file.name for file in files()})

    def test_holds_python_files_alone(self):
        others = [
            path for path in FOLDER.rglob("*")
            if path.is_file() and path.suffix != ".py" and path.parent.name != "__pycache__"
        ]
        self.assertEqual(others, [])

    def test_imports_nothing_from_outside(self):
        for file in files():
            for node in nodes(file):
                with self.subTest(file=file.name):
                    self.assertNotIsInstance(node, ast.Import)
                    if isinstance(node, ast.ImportFrom):
                        self.assertEqual(node.level, 0)
                        self.assertEqual(node.module.split(".")[0], "powersums")

    def test_names_nothing_that_prints_or_reads(self):
        for file in files():
            used = {node.id for node in nodes(file) if isinstance(node, ast.Name)}
            with self.subTest(file=file.name):
                self.assertEqual(used & set(OUTWARD), set())

    def test_sizes_and_signs(self):
        for file in files():
            text = file.read_bytes().decode("utf-8")
            with self.subTest(file=file.name):
                self.assertTrue(all(sign == "\n" or " " <= sign <= "~" for sign in text))
                rows = text.split("\n")
                self.assertLessEqual(len(rows), 400)
                self.assertLessEqual(max(len(row) for row in rows), 120)
                for node in nodes(file):
                    if isinstance(node, ast.FunctionDef):
                        self.assertLessEqual(node.end_lineno - node.lineno + 1, 40, node.name)


if __name__ == "__main__":
    unittest.main()
