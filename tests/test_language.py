"""The rules of the language that can be seen without running anything."""

import ast
import pathlib
import re
import unittest
import warnings

PACKAGE = pathlib.Path(__file__).resolve().parent.parent / "deepenough"
FILES = sorted(PACKAGE.rglob("*.py"))

LIBRARY = {
    "heapq": {"heappush", "heappop", "heapify", "heapreplace", "heappushpop"},
    "math": {"gcd", "lcm", "isqrt", "comb", "perm", "factorial"},
    "itertools": {"product", "combinations", "permutations", "chain", "accumulate", "pairwise", "islice",
                  "zip_longest"},
    "collections": {"defaultdict", "deque"},
    "__future__": {"annotations"},
}
BARRED = {"typing", "typing_extensions", "enum", "Enum", "IntEnum", "StrEnum", "Flag", "IntFlag", "Generic", "Protocol",
          "ABC", "ABCMeta", "namedtuple", "NamedTuple", "TypedDict", "TYPE_CHECKING", "abstractmethod"}
DECORATORS = {"property", "classmethod", "staticmethod", "setter"}


def parsed(path):
    return ast.parse(path.read_text(encoding="ascii"))


def nodes(path, *kinds):
    return [node for node in ast.walk(parsed(path)) if isinstance(node, kinds)]


class Files(unittest.TestCase):
    def test_only_plain_files_in_the_package(self):
        found = [path for path in PACKAGE.rglob("*") if path.is_file() and "__pycache__" not in path.parts]
        self.assertEqual(sorted(found), FILES)
        for path in FILES:
            self.assertRegex(path.name, r"\A[a-z][a-z0-9_]*\.py\Z|\A__(init|main)__\.py\Z")
            self.assertTrue((path.parent / "__init__.py").is_file())
        self.assertLessEqual(len(FILES), 100)

    def test_size_and_signs(self):
        for path in FILES:
            text = path.read_text(encoding="ascii")
            rows = text.split("\n")
            self.assertLess(len(rows), 400, path)
            self.assertLessEqual(max(len(row) for row in rows), 120, path)
            self.assertRegex(text, r"\A[\n -~]*\Z", path)
            for node in nodes(path, ast.FunctionDef):
                self.assertLessEqual(node.end_lineno - node.lineno + 1, 40, (path, node.name))

    def test_no_warning(self):
        for path in FILES:
            with warnings.catch_warnings():
                warnings.simplefilter("error")
                compile(path.read_text(encoding="ascii"), str(path), "exec")


class Words(unittest.TestCase):
    def test_imports(self):
        for path in FILES:
            self.assertEqual(nodes(path, ast.Import), [], path)
            for node in nodes(path, ast.ImportFrom):
                self.assertEqual(node.level, 0, path)
                if node.module.split(".")[0] == "deepenough":
                    target = PACKAGE.parent / (node.module.replace(".", "/") + ".py")
                    defined = [other.name for other in parsed(target).body if hasattr(other, "name")]
                    self.assertLessEqual({name.name for name in node.names}, set(defined), path)
                else:
                    self.assertLessEqual({name.name for name in node.names}, LIBRARY[node.module], path)

    def test_module_level(self):
        allowed = (ast.ImportFrom, ast.FunctionDef, ast.ClassDef, ast.Assign)
        for path in FILES:
            body = parsed(path).body
            self.assertIsInstance(ast.get_docstring(parsed(path)), str)
            self.assertEqual([node for node in body[1:] if not isinstance(node, allowed)], [], path)

    def test_no_barred_word(self):
        for path in FILES:
            tree = parsed(path)
            for node in ast.walk(tree):
                if isinstance(getattr(node, "body", None), list) and isinstance(node.body[0], ast.Expr):
                    node.body = node.body[1:] if isinstance(node.body[0].value, ast.Constant) else node.body
            words = set(re.findall(r"\w+", ast.unparse(tree)))
            self.assertEqual(words & BARRED, set(), path)

    def test_no_statement_or_value_outside_the_language(self):
        barred = (ast.AsyncFunctionDef, ast.AsyncFor, ast.AsyncWith, ast.Await, ast.Div)
        for path in FILES:
            self.assertEqual(nodes(path, *barred), [], path)
            constants = [node.value for node in nodes(path, ast.Constant)]
            self.assertEqual([value for value in constants if isinstance(value, (float, complex))], [], path)
            self.assertEqual([value for value in constants if isinstance(value, str) and "\x25" in value], [], path)
            for node in nodes(path, ast.FunctionDef):
                for mark in node.decorator_list:
                    self.assertIn(getattr(mark, "id", getattr(mark, "attr", None)), DECORATORS, path)


if __name__ == "__main__":
    unittest.main()
