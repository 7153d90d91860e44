"""[1]: the package's files use no clock, random numbers, files or floats; and the sizes that LANGUAGE.md sets."""

import ast
import pathlib
import unittest

PACKAGE = pathlib.Path(__file__).resolve().parent.parent / "viewstairs"
FROM_OUTSIDE = {"math": {"gcd", "lcm", "isqrt", "comb", "perm", "factorial"},
                "heapq": {"heappush", "heappop", "heapify", "heapreplace", "heappushpop"},
                "itertools": {"product", "combinations", "permutations"}}
BARRED = {"open", "input", "print", "float", "complex", "eval", "exec", "getattr", "setattr", "round", "hash", "id"}


class Source(unittest.TestCase):

    def files(self):
        found = sorted(PACKAGE.rglob("*.py"))
        self.assertTrue(found)
        return found

    def trees(self):
        return [(file.name, ast.parse(file.read_text("utf-8"))) for file in self.files()]

    def test_imports(self):
        for name, tree in self.trees():
            for node in ast.walk(tree):
                self.assertNotIsInstance(node, ast.Import, name)
                if isinstance(node, ast.ImportFrom):
                    self.assertEqual(node.level, 0)
                    names = {part.name for part in node.names}
                    if node.module.split(".")[0] != "viewstairs":
                        self.assertLessEqual(names, FROM_OUTSIDE[node.module], name)

    def test_no_floats(self):
        for name, tree in self.trees():
            for node in ast.walk(tree):
                self.assertNotIsInstance(node, ast.Div, name)
                if isinstance(node, ast.Constant):
                    self.assertNotIsInstance(node.value, (float, complex), name)

    def test_no_barred_builtins(self):
        for name, tree in self.trees():
            used = {node.id for node in ast.walk(tree) if isinstance(node, ast.Name)}
            self.assertEqual(used & BARRED, set(), name)

    def test_no_signs_that_a_run_defines(self):
        # Runs define "+=", so it is not taken for anything else in the package.
        for name, tree in self.trees():
            for node in ast.walk(tree):
                self.assertNotIsInstance(node, ast.AugAssign, name)

    def test_sizes_and_characters(self):
        for file in self.files():
            text = file.read_text("utf-8")
            self.assertTrue(all(letter == "\n" or " " <= letter <= "~" for letter in text), file.name)
            self.assertLessEqual(len(text.split("\n")) - 1, 399, file.name)
            self.assertLessEqual(max(map(len, text.split("\n"))), 120, file.name)
            for node in ast.walk(ast.parse(text)):
                if isinstance(node, ast.FunctionDef):
                    self.assertLessEqual(node.end_lineno - node.lineno + 1, 40, node.name)


if __name__ == "__main__":
    unittest.main()
