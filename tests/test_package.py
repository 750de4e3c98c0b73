"""The form of the package, and the examples of the README."""

import ast
import pathlib
import unittest

ROOT = pathlib.Path(__file__).resolve().parent.parent
PACKAGE = ROOT / "probelots"
LIBRARY = {"heapq", "math", "itertools", "collections"}


def files():
    return sorted(PACKAGE.glob("*.py"))


def functions(tree):
    return [node for node in ast.walk(tree) if isinstance(node, ast.FunctionDef)]


class Package(unittest.TestCase):
    def test_the_folder_contains_nothing_but_its_files(self):
        names = [path.name for path in PACKAGE.iterdir() if path.name != "__pycache__"]
        self.assertEqual(sorted(names), [path.name for path in files()])
        self.assertIn("__init__.py", names)

    def test_sizes_and_signs(self):
        for path in files():
            text = path.read_text(encoding="utf-8")
            rows = text.split("\n")
            self.assertLess(len(rows), 400, path.name)
            self.assertLessEqual(max(map(len, rows)), 120, path.name)
            self.assertEqual([sign for sign in text if sign != "\n" and not " " <= sign <= "~"], [], path.name)
            for function in functions(ast.parse(text)):
                self.assertLessEqual(function.end_lineno - function.lineno + 1, 40, (path.name, function.name))

    def test_imports_name_the_file_that_defines(self):
        for path in files():
            for node in ast.walk(ast.parse(path.read_text(encoding="utf-8"))):
                self.assertNotIsInstance(node, ast.Import, path.name)
                if isinstance(node, ast.ImportFrom) and node.module not in LIBRARY:
                    self.assertEqual(node.level, 0)
                    source = ROOT / (node.module.replace(".", "/") + ".py")
                    self.assertIn(source, files())
                    self.assertLessEqual({alias.name for alias in node.names}, self.defined(source), path.name)

    def defined(self, path):
        found = set()
        for node in ast.parse(path.read_text(encoding="utf-8")).body:
            if isinstance(node, (ast.FunctionDef, ast.ClassDef)):
                found.add(node.name)
            if isinstance(node, ast.Assign):
                found.add(node.targets[0].id)
        return found


class Readme(unittest.TestCase):
    def test_examples_are_so(self):
        text = (ROOT / "README.md").read_text(encoding="utf-8")
        code = text.split("```python\n")[1].split("```")[0]
        names, checked = {}, 0
        for row in code.split("\n"):
            call, _, said = row.partition("#")
            name, _, worth = call.strip().rpartition(" = ")
            if not worth or worth.startswith("from "):
                exec(call, names)
                continue
            given = eval(worth, names)
            if name:
                names[name] = given
            if said:
                right = said.split(": ")[0].replace(" unlike answers", "").strip()
                self.assertEqual(given, ast.literal_eval(right), row)
                checked += 1
        self.assertEqual(checked, 23)


if __name__ == "__main__":
    unittest.main()
