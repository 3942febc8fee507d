"""Point [2], and the form of the package: what its files may contain and use."""

import ast
import builtins
import pathlib
import re
import unittest
import warnings

PACKAGE = pathlib.Path(__file__).resolve().parent.parent / "ripplewell"

LIBRARY = {
    "heapq": {"heappush", "heappop", "heapify", "heapreplace", "heappushpop"},
    "math": {"gcd", "lcm", "isqrt", "comb", "perm", "factorial"},
    "itertools": {"product", "combinations", "permutations", "chain", "accumulate", "pairwise",
                  "islice", "zip_longest"},
    "collections": {"defaultdict", "deque"},
    "__future__": {"annotations"},
}

BARRED_NAMES = {
    "open", "input", "print", "eval", "exec", "compile", "globals", "locals", "vars", "dir", "id",
    "hash", "breakpoint", "exit", "quit", "float", "complex", "object", "chr", "round", "filter",
}


BARRED_WORDS = re.compile(
    r"\b(register|elements|open|input|law|mro|typing|enum|Enum|Generic|Protocol|ABC|namedtuple|NamedTuple|TypedDict"
    r"|abstractmethod|print|chr|float|global|async|await)\b|dataclass|overload|contextmanager|__slots__|_wall")


def files():
    return sorted(PACKAGE.rglob("*.py"))


def nodes_of(path):
    return list(ast.walk(ast.parse(path.read_text(encoding="utf-8"))))


class PackageTest(unittest.TestCase):
    def test_there_are_files(self):
        names = [path.name for path in files()]
        for name in ("__init__.py", "errors.py", "values.py", "readings.py", "programs.py", "runtimes.py"):
            self.assertIn(name, names)

    def test_the_folder_contains_python_files_only(self):
        for path in PACKAGE.rglob("*"):
            if "__pycache__" not in path.parts and not path.is_dir():
                self.assertEqual(path.suffix, ".py", path)

    def test_nothing_outside_of_the_package_is_imported(self):
        for path in files():
            for node in nodes_of(path):
                self.assertNotIsInstance(node, ast.Import, path)
                if not isinstance(node, ast.ImportFrom):
                    continue
                self.assertEqual(node.level, 0, path)
                if node.module.split(".")[0] != "ripplewell":
                    names = {alias.name for alias in node.names}
                    self.assertLessEqual(names, LIBRARY.get(node.module, set()), path)

    def test_no_builtin_reaches_the_machine(self):
        for path in files():
            names = {node.id for node in nodes_of(path) if isinstance(node, ast.Name)}
            self.assertEqual(names & BARRED_NAMES, set(), path)

    def test_sizes_and_characters(self):
        for path in files():
            text = path.read_text(encoding="utf-8")
            lines = text.splitlines()
            self.assertTrue(text.isascii(), path)
            self.assertNotIn("\t", text, path)
            self.assertLessEqual(len(lines), 399, path)
            self.assertLessEqual(max([len(line) for line in lines], default=0), 120, path)

    def test_python_gives_no_warning_for_a_file(self):
        for path in files():
            with warnings.catch_warnings():
                warnings.simplefilter("error")
                compile(path.read_text(encoding="utf-8"), str(path), "exec")

    def test_functions_are_small_and_plain(self):
        for path in files():
            for node in nodes_of(path):
                self.assertNotIsInstance(node, (ast.AsyncFunctionDef, ast.Await, ast.Global), path)
                if isinstance(node, ast.FunctionDef):
                    self.assertLessEqual(node.end_lineno - node.lineno + 1, 40, (path, node.name))

    def test_words_that_do_not_occur(self):
        for path in files():
            for at, line in enumerate(path.read_text(encoding="utf-8").splitlines(), 1):
                self.assertIs(BARRED_WORDS.search(line), None, (path, at))
                if re.search(r"\btype\b", line):
                    self.assertRegex(line, r"type\([a-z\[\]0-9.]+\) (==|!=) (int|str|list|tuple|dict)\b", (path, at))

    def test_a_module_holds_definitions_and_plain_values(self):
        for path in files():
            for node in ast.parse(path.read_text(encoding="utf-8")).body:
                if isinstance(node, ast.Assign):
                    self.assertEqual(len(node.targets), 1, path)
                    for part in ast.walk(node.value):
                        self.assertIsInstance(part, (ast.Constant, ast.Tuple, ast.Dict, ast.Name, ast.Load), path)
                elif isinstance(node, ast.Expr):
                    self.assertIsInstance(node.value, ast.Constant, path)
                else:
                    self.assertIsInstance(node, (ast.ImportFrom, ast.FunctionDef, ast.ClassDef), path)

    def test_each_name_is_bound_once_and_hides_nothing(self):
        for path in files():
            bound = names_of_module(path)
            self.assertEqual(len(bound), len(set(bound)), path)
            barred = set(imports_of(path)) | set(dir(builtins))
            for node in nodes_of(path):
                if isinstance(node, (ast.FunctionDef, ast.Lambda)):
                    self.assertEqual(locals_of(node) & barred, set(), (path, node.lineno))

    def test_no_name_is_a_method_and_an_attribute(self):
        methods, attributes = set(), set()
        for path in files():
            for node in nodes_of(path):
                if isinstance(node, ast.ClassDef):
                    methods |= {part.name for part in node.body if isinstance(part, ast.FunctionDef)}
                if isinstance(node, ast.Attribute) and isinstance(node.ctx, ast.Store):
                    attributes.add(node.attr)
        self.assertEqual(methods & attributes, set())

    def test_no_two_files_import_from_each_other(self):
        edges = {path.stem: {node.module.split(".")[-1] for node in nodes_of(path) if isinstance(node, ast.ImportFrom)}
                 for path in files()}
        while edges:
            free = [name for name in edges if not edges[name] & set(edges)]
            self.assertTrue(free, edges)
            for name in free:
                del edges[name]

    def test_only_own_errors_are_caught(self):
        for path in files():
            for node in nodes_of(path):
                if isinstance(node, ast.ExceptHandler):
                    self.assertEqual(node.type.id, "RippleError", path)


def names_of_module(path):
    found = imports_of(path)
    for node in ast.parse(path.read_text(encoding="utf-8")).body:
        if isinstance(node, (ast.FunctionDef, ast.ClassDef)):
            found.append(node.name)
        if isinstance(node, ast.Assign):
            found.append(node.targets[0].id)
    return found


def imports_of(path):
    return [alias.name for node in nodes_of(path) if isinstance(node, ast.ImportFrom) for alias in node.names]


def locals_of(function):
    found = {argument.arg for argument in function.args.args}
    for node in ast.walk(function):
        if isinstance(node, ast.Name) and isinstance(node.ctx, (ast.Store, ast.Del)):
            found.add(node.id)
        if isinstance(node, ast.ExceptHandler) and node.name:
            found.add(node.name)
    return found


if __name__ == "__main__":
    unittest.main()
