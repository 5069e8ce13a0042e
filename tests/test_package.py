"""What ../shared/LANGUAGE.md and the interface ask of the files of the package, as far as it is counted."""

import ast
import unittest
from pathlib import Path

PACKAGE = Path(__file__).resolve().parent.parent / "flatsheaves"
INTERFACE = {
    "errors": ["FlatError", "KindError", "TrapError", "PaperError"],
    "numbers": ["wrapped", "calculate"],
    "kinds": ["check", "free_names"],
    "plain": ["size", "evaluate"],
    "vectors": ["execute"],
    "layouts": ["vectors_of", "values_of"],
    "flatten": ["flatten"],
    "machine": ["run"],
    "passes": ["rewrite", "improve"],
    "slots": ["live", "plan", "fewest", "plan_right", "run_slots"],
}


LIBRARY = ("heapq", "math", "itertools", "collections", "__future__")


def functions_in(tree):
    return [node for node in ast.walk(tree) if isinstance(node, ast.FunctionDef)]


class Package(unittest.TestCase):
    def test_interface_is_defined_where_it_is_listed(self):
        for module, names in INTERFACE.items():
            tree = ast.parse((PACKAGE / f"{module}.py").read_text("utf-8"))
            defined = [node.name for node in tree.body if isinstance(node, (ast.FunctionDef, ast.ClassDef))]
            for name in names:
                self.assertIn(name, defined)

    def test_sizes_and_characters(self):
        for path in PACKAGE.rglob("*.py"):
            text = path.read_text("utf-8")
            self.assertTrue(all(c == "\n" or " " <= c <= "~" for c in text), path)
            self.assertLess(len(text.splitlines()), 400, path)
            self.assertLessEqual(max([len(line) for line in text.splitlines()]), 120, path)
            for function in functions_in(ast.parse(text)):
                self.assertLessEqual(function.end_lineno - function.lineno + 1, 40, (path, function.name))

    def test_imports_name_the_package_or_the_allowed_library(self):
        for path in PACKAGE.rglob("*.py"):
            for node in ast.walk(ast.parse(path.read_text("utf-8"))):
                self.assertNotIsInstance(node, ast.Import, path)
                if isinstance(node, ast.ImportFrom):
                    self.assertEqual(node.level, 0, path)
                    self.assertTrue(node.module.startswith("flatsheaves.") or node.module in LIBRARY, path)


if __name__ == "__main__":
    unittest.main()
