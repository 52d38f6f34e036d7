"""Those rules of the language that are plain to count: imports, sizes, characters, names."""

import ast
import os
import unittest

FOLDER = os.path.join(os.path.dirname(os.path.dirname(os.path.abspath(__file__))), "manyshaped")
INTERFACE = {
    "errors.py": ["ManyshapedError", "BadShape", "BadSystem", "BadState", "BadFormula", "BadMap", "TooMuch"],
    "shape.py": ["check_shape", "size"],
    "value.py": ["is_value", "image", "states_in", "count_values"],
    "system.py": ["check_system", "summed", "reached", "part", "is_map"],
    "alike.py": ["coarsest", "are_classes", "ranks", "alike", "takes"],
    "formula.py": ["check_formula", "true_of", "depth", "characteristic"],
    "least.py": ["form", "quotient", "same"],
    "unfold.py": ["unfolding"],
}
OUTSIDE = {"math": {"comb", "gcd", "lcm"}}


def sources():
    for name in sorted(os.listdir(FOLDER)):
        if name != "__pycache__":
            with open(os.path.join(FOLDER, name), encoding="ascii") as file:
                yield name, file.read()


class Language(unittest.TestCase):

    def test_only_python_files(self):
        for name, _ in sources():
            self.assertRegex(name, "^[a-z_]+[.]py$")

    def test_sizes_and_characters(self):
        for name, text in sources():
            lines = text.split("\n")
            self.assertLessEqual(len(lines), 400, name)
            self.assertLessEqual(max(len(line) for line in lines), 120, name)
            self.assertTrue(all(c == "\n" or " " <= c <= "~" for c in text), name)
            for node in ast.walk(ast.parse(text)):
                if isinstance(node, ast.FunctionDef):
                    self.assertLessEqual(node.end_lineno - node.lineno + 1, 40, node.name)

    def test_imports(self):
        for name, text in sources():
            for node in ast.walk(ast.parse(text)):
                self.assertNotIsInstance(node, ast.Import, name)
                if isinstance(node, ast.ImportFrom) and not node.module.startswith("manyshaped."):
                    self.assertLessEqual({alias.name for alias in node.names}, OUTSIDE.get(node.module, set()))

    def test_the_interface_is_defined_where_it_is_listed(self):
        texts = dict(sources())
        for name, listed in INTERFACE.items():
            rows = ast.parse(texts[name]).body
            defined = {row.name for row in rows if isinstance(row, (ast.FunctionDef, ast.ClassDef))}
            self.assertLessEqual(set(listed), defined)

    def test_no_floats_and_no_division(self):
        for name, text in sources():
            for node in ast.walk(ast.parse(text)):
                self.assertNotIsInstance(node, ast.Div, name)
                self.assertNotIsInstance(getattr(node, "value", None), float, name)


if __name__ == "__main__":
    unittest.main()
