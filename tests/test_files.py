"""The files of the package: their sizes, signs and imports, and the interface that they define."""

import ast
import unittest
from pathlib import Path

PACKAGE = Path(__file__).resolve().parent.parent / "pausewright"
FILES = sorted(PACKAGE.glob("*.py"))
INTERFACE = {
    "errors.py": {"PauseError": None, "BadWork": None, "BadAsk": None, "BadText": None},
    "works.py": {"need_program": ["program"], "steps_in": ["program", "work"]},
    "walking.py": {"played": ["program", "work", "numbers", "deeds"]},
    "making.py": {"made": ["program"], "most_rooms": ["program", "work"], "matched": ["program", "one", "other"]},
    "joining.py": {"joined": ["machine"]},
    "running.py": {"ran": ["machines", "work", "numbers", "deeds"]},
    "notes.py": {"written": ["program"], "read": ["text"]},
}


class Files(unittest.TestCase):
    def test_the_folder_holds_python_files_alone(self):
        others = [path.name for path in PACKAGE.iterdir() if path.suffix != ".py" and path.name != "__pycache__"]
        self.assertEqual(others, [])
        self.assertIn(PACKAGE / "__init__.py", FILES)

    def test_signs_and_lines(self):
        for path in FILES:
            text = path.read_text(encoding="utf-8")
            self.assertTrue(all(sign == "\n" or " " <= sign <= "~" for sign in text), path.name)
            lines = text.splitlines()
            self.assertLessEqual(len(lines), 399, path.name)
            self.assertLessEqual(max(len(line) for line in lines), 120, path.name)

    def test_functions_are_small(self):
        for path in FILES:
            for node in ast.walk(ast.parse(path.read_text())):
                if isinstance(node, ast.FunctionDef):
                    self.assertLessEqual(node.end_lineno - node.lineno + 1, 40, (path.name, node.name))

    def test_imports_are_of_the_package_alone(self):
        for path in FILES:
            for node in ast.walk(ast.parse(path.read_text())):
                self.assertNotIsInstance(node, ast.Import, path.name)
                if isinstance(node, ast.ImportFrom):
                    self.assertTrue(node.module.startswith("pausewright."), (path.name, node.module))

    def test_no_percent_sign_in_strings(self):
        for path in FILES:
            for node in ast.walk(ast.parse(path.read_text())):
                if isinstance(node, ast.Constant) and isinstance(node.value, str):
                    self.assertNotIn(chr(37), node.value, path.name)

    def test_the_interface_is_defined_in_its_files(self):
        for name, listed in INTERFACE.items():
            tree = ast.parse((PACKAGE / name).read_text())
            defined = {node.name: node for node in tree.body if isinstance(node, (ast.FunctionDef, ast.ClassDef))}
            for part, params in listed.items():
                self.assertIn(part, defined)
                if params is not None:
                    self.assertEqual([arg.arg for arg in defined[part].args.args], params)


if __name__ == "__main__":
    unittest.main()
