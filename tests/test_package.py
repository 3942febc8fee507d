"""Point [2], and the form of the package: what its files may contain and use."""

import ast
import pathlib
import unittest
import warnings

PACKAGE = pathlib.Path(__file__).resolve().parent.parent / "ripplewell"

LIBRARY = {
    "heapq": {"heappush", "heappop", "heapify", "heapreplace", "heappushpop"},
    "math": {"gcd", "lcm", "isqrt", "comb", "perm", "factorial"},
    "itertools": {"product", "combinations", "permutations", "chain", "accumulate", "pairwise",
                  "islice", "zip_longest"},
    "collections": {"defaultdict", "deque"},
    "__future__": {"annotations"},
}

BARRED_NAMES = {
    "open", "input", "print", "eval", "exec", "compile", "globals", "locals", "vars", "dir", "id",
    "hash", "breakpoint", "exit", "quit", "float", "complex", "object", "chr", "round", "filter",
}


def files():
    return sorted(PACKAGE.rglob("*.py"))


def nodes_of(path):
    return list(ast.walk(ast.parse(path.read_text(encoding="utf-8"))))


class PackageTest(unittest.TestCase):
    def test_there_are_files(self):
        names = [path.name for path in files()]
        for name in ("__init__.py", "errors.py", "values.py"):
            self.assertIn(name, names)

    def test_the_folder_contains_python_files_only(self):
        for path in PACKAGE.rglob("*"):
            if "__pycache__" not in path.parts and not path.is_dir():
                self.assertEqual(path.suffix, ".py", path)

    def test_nothing_outside_of_the_package_is_imported(self):
        for path in files():
            for node in nodes_of(path):
                self.assertNotIsInstance(node, ast.Import, path)
                if not isinstance(node, ast.ImportFrom):
                    continue
                self.assertEqual(node.level, 0, path)
                if node.module.split(".")[0] != "ripplewell":
                    names = {alias.name for alias in node.names}
                    self.assertLessEqual(names, LIBRARY.get(node.module, set()), path)

    def test_no_builtin_reaches_the_machine(self):
        for path in files():
            names = {node.id for node in nodes_of(path) if isinstance(node, ast.Name)}
            self.assertEqual(names & BARRED_NAMES, set(), path)

    def test_sizes_and_characters(self):
        for path in files():
            text = path.read_text(encoding="utf-8")
            lines = text.splitlines()
            self.assertTrue(text.isascii(), path)
            self.assertNotIn("\t", text, path)
            self.assertLessEqual(len(lines), 399, path)
            self.assertLessEqual(max([len(line) for line in lines], default=0), 120, path)

    def test_python_gives_no_warning_for_a_file(self):
        for path in files():
            with warnings.catch_warnings():
                warnings.simplefilter("error")
                compile(path.read_text(encoding="utf-8"), str(path), "exec")

    def test_functions_are_small_and_plain(self):
        for path in files():
            for node in nodes_of(path):
                self.assertNotIsInstance(node, (ast.AsyncFunctionDef, ast.Await, ast.Global), path)
                if isinstance(node, ast.FunctionDef):
                    self.assertLessEqual(node.end_lineno - node.lineno + 1, 40, (path, node.name))


if __name__ == "__main__":
    unittest.main()
