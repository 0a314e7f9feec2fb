"""The rules of the language subset that can be told from a file by itself."""

import ast
import builtins
import pathlib
import unittest

PACKAGE = pathlib.Path(__file__).resolve().parent.parent / "tailswap"
FILES = sorted(PACKAGE.glob("*.py"))
LIBRARY = {
    "heapq": {"heappush", "heappop", "heapify", "heapreplace", "heappushpop"},
    "math": {"gcd", "lcm", "isqrt", "comb", "perm", "factorial"},
    "itertools": {
        "product", "combinations", "permutations", "chain", "accumulate", "pairwise", "islice", "zip_longest",
    },
    "collections": {"defaultdict"},
}

# The methods of builtin values that may be called.
METHODS = {
    "append", "clear", "copy", "count", "endswith", "extend", "find", "get", "index", "insert", "isalnum", "isalpha",
    "isdigit", "islower", "isspace", "isupper", "items", "join", "keys", "ljust", "lower", "lstrip", "partition", "pop",
    "remove", "replace", "reverse", "rfind", "rjust", "rpartition", "rsplit", "rstrip", "setdefault", "split",
    "splitlines", "startswith", "strip", "update", "upper", "values", "zfill", "bit_length",
}
BUILTINS = {
    "len", "range", "enumerate", "zip", "min", "max", "sum", "abs", "sorted", "reversed", "int", "str", "bool", "list",
    "tuple", "dict", "set", "isinstance", "ord", "repr", "any", "all", "divmod", "ValueError",
}


def nodes_of(file, *kinds):
    return [node for node in ast.walk(ast.parse(file.read_text())) if isinstance(node, kinds)]


def defined_in(file):
    defined = {node.name for node in nodes_of(file, ast.FunctionDef, ast.ClassDef)}
    return defined | {node.id for node in nodes_of(file, ast.Name) if isinstance(node.ctx, ast.Store)}


class LanguageTest(unittest.TestCase):
    def test_the_package_holds_its_files_alone(self):
        found = [path.name for path in PACKAGE.iterdir() if path.name != "__pycache__"]
        self.assertEqual(sorted(found), [file.name for file in FILES])
        self.assertIn("__init__.py", found)

    def test_sizes(self):
        for file in FILES:
            lines = file.read_text().split("\n")
            self.assertLessEqual(len(lines), 399, file.name)
            self.assertLessEqual(max(map(len, lines)), 120, file.name)
            for function in nodes_of(file, ast.FunctionDef):
                self.assertLessEqual(function.end_lineno - function.lineno + 1, 40, (file.name, function.name))

    def test_signs(self):
        for file in FILES:
            for sign in file.read_text():
                self.assertTrue(sign == "\n" or " " <= sign <= "~", (file.name, sign))

    def test_strings_without_the_percent_sign(self):
        for file in FILES:
            for constant in nodes_of(file, ast.Constant):
                self.assertFalse(isinstance(constant.value, str) and "%" in constant.value, file.name)
                self.assertNotIsInstance(constant.value, (float, complex, bytes))

    def test_imports(self):
        for file in FILES:
            self.assertEqual(nodes_of(file, ast.Import), [], file.name)
            for line in nodes_of(file, ast.ImportFrom):
                names = {alias.name for alias in line.names}
                self.assertEqual(line.level, 0)
                self.assertTrue(all(alias.asname is None for alias in line.names), file.name)
                if line.module.startswith("tailswap."):
                    own = PACKAGE / f"{line.module.removeprefix('tailswap.')}.py"
                    self.assertLessEqual(names, defined_in(own), file.name)
                else:
                    self.assertLessEqual(names, LIBRARY[line.module], file.name)

    def test_statements_that_are_left_out(self):
        for file in FILES:
            left_out = (ast.Global, ast.AsyncFunctionDef, ast.AsyncFor, ast.AsyncWith, ast.Await, ast.Div)
            self.assertEqual(nodes_of(file, *left_out), [], file.name)

    def test_methods(self):
        own = {function.name for file in FILES for function in nodes_of(file, ast.FunctionDef)}
        for file in FILES:
            for call in nodes_of(file, ast.Call):
                if isinstance(call.func, ast.Attribute):
                    self.assertIn(call.func.attr, METHODS | own, file.name)

    def test_builtins(self):
        known = {name for name in dir(builtins) if not name.startswith("_")}
        for file in FILES:
            self.assertEqual(defined_in(file) & known, set(), file.name)
            read = {node.id for node in nodes_of(file, ast.Name) if isinstance(node.ctx, ast.Load)}
            self.assertLessEqual(read & known, BUILTINS, file.name)
            names = {argument.arg for argument in nodes_of(file, ast.arg)}
            self.assertEqual(names & known, set(), file.name)

    def test_what_the_package_does_without(self):
        for file in FILES:
            left_out = (ast.GeneratorExp, ast.Yield, ast.YieldFrom, ast.SetComp, ast.NamedExpr, ast.Try)
            self.assertEqual(nodes_of(file, *left_out), [], file.name)

    def test_no_two_files_import_from_each_other(self):
        lines = {file.stem: nodes_of(file, ast.ImportFrom) for file in FILES}
        ahead = {
            stem: {line.module.removeprefix("tailswap.") for line in told if line.module.startswith("tailswap.")}
            for stem, told in lines.items()
        }
        while ahead:
            free = [stem for stem, needed in ahead.items() if not needed & set(ahead)]
            self.assertNotEqual(free, [])
            ahead = {stem: needed for stem, needed in ahead.items() if stem not in free}


if __name__ == "__main__":
    unittest.main()
