"""The rules of the language that can be seen without running anything."""

import ast
import builtins
import pathlib
import re
import unittest
import warnings

PACKAGE = pathlib.Path(__file__).resolve().parent.parent / "deepenough"
FILES = sorted(PACKAGE.rglob("*.py"))

LIBRARY = {
    "heapq": {"heappush", "heappop", "heapify", "heapreplace", "heappushpop"},
    "math": {"gcd", "lcm", "isqrt", "comb", "perm", "factorial"},
    "itertools": {"product", "combinations", "permutations", "chain", "accumulate", "pairwise", "islice",
                  "zip_longest"},
    "collections": {"defaultdict", "deque"},
    "__future__": {"annotations"},
}
BARRED = {"typing", "typing_extensions", "enum", "Enum", "IntEnum", "StrEnum", "Flag", "IntFlag", "Generic", "Protocol",
          "ABC", "ABCMeta", "namedtuple", "NamedTuple", "TypedDict", "TYPE_CHECKING", "abstractmethod"}
DECORATORS = {"property", "classmethod", "staticmethod", "setter"}


def parsed(path):
    return ast.parse(path.read_text(encoding="ascii"))


def nodes(path, *kinds):
    return [node for node in ast.walk(parsed(path)) if isinstance(node, kinds)]


class Files(unittest.TestCase):
    def test_only_plain_files_in_the_package(self):
        found = [path for path in PACKAGE.rglob("*") if path.is_file() and "__pycache__" not in path.parts]
        self.assertEqual(sorted(found), FILES)
        for path in FILES:
            self.assertRegex(path.name, r"\A[a-z][a-z0-9_]*\.py\Z|\A__(init|main)__\.py\Z")
            self.assertTrue((path.parent / "__init__.py").is_file())
        self.assertLessEqual(len(FILES), 100)

    def test_size_and_signs(self):
        for path in FILES:
            text = path.read_text(encoding="ascii")
            rows = text.split("\n")
            self.assertLess(len(rows), 400, path)
            self.assertLessEqual(max(len(row) for row in rows), 120, path)
            self.assertRegex(text, r"\A[\n -~]*\Z", path)
            for node in nodes(path, ast.FunctionDef):
                self.assertLessEqual(node.end_lineno - node.lineno + 1, 40, (path, node.name))

    def test_no_warning(self):
        for path in FILES:
            with warnings.catch_warnings():
                warnings.simplefilter("error")
                compile(path.read_text(encoding="ascii"), str(path), "exec")


class Words(unittest.TestCase):
    def test_imports(self):
        for path in FILES:
            self.assertEqual(nodes(path, ast.Import), [], path)
            for node in nodes(path, ast.ImportFrom):
                self.assertEqual(node.level, 0, path)
                if node.module.split(".")[0] == "deepenough":
                    target = PACKAGE.parent / (node.module.replace(".", "/") + ".py")
                    body = parsed(target).body
                    defined = [other.name for other in body if hasattr(other, "name")]
                    defined += [other.targets[0].id for other in body if isinstance(other, ast.Assign)]
                    self.assertLessEqual({name.name for name in node.names}, set(defined), path)
                else:
                    self.assertLessEqual({name.name for name in node.names}, LIBRARY[node.module], path)

    def test_module_level(self):
        allowed = (ast.ImportFrom, ast.FunctionDef, ast.ClassDef, ast.Assign)
        for path in FILES:
            body = parsed(path).body
            self.assertIsInstance(ast.get_docstring(parsed(path)), str)
            self.assertEqual([node for node in body[1:] if not isinstance(node, allowed)], [], path)

    def test_no_barred_word(self):
        for path in FILES:
            tree = parsed(path)
            for node in ast.walk(tree):
                if isinstance(getattr(node, "body", None), list) and isinstance(node.body[0], ast.Expr):
                    node.body = node.body[1:] if isinstance(node.body[0].value, ast.Constant) else node.body
            words = set(re.findall(r"\w+", ast.unparse(tree)))
            self.assertEqual(words & BARRED, set(), path)

    def test_no_statement_or_value_outside_the_language(self):
        barred = (ast.AsyncFunctionDef, ast.AsyncFor, ast.AsyncWith, ast.Await, ast.Div)
        for path in FILES:
            self.assertEqual(nodes(path, *barred), [], path)
            constants = [node.value for node in nodes(path, ast.Constant)]
            self.assertEqual([value for value in constants if isinstance(value, (float, complex))], [], path)
            self.assertEqual([value for value in constants if isinstance(value, str) and "\x25" in value], [], path)
            for node in nodes(path, ast.FunctionDef):
                for mark in node.decorator_list:
                    self.assertIn(getattr(mark, "id", getattr(mark, "attr", None)), DECORATORS, path)


METHODS = set("""append clear copy count endswith extend find get index insert isalnum isalpha isdigit islower isspace
isupper items join keys ljust lower lstrip partition pop remove replace reverse rfind rjust rpartition rsplit rstrip
setdefault split splitlines startswith strip update upper values zfill bit_length isascii removeprefix removesuffix
add discard popleft appendleft""".split())
CALLED = set("""len range enumerate zip min max sum abs sorted reversed int str bool list tuple dict set isinstance ord repr
any all divmod type super""".split())
ERRORS = set("""Exception ValueError TypeError KeyError IndexError LookupError ZeroDivisionError ArithmeticError
OverflowError RuntimeError""".split())
ATTRIBUTES = set("""items keys values pop update append clear extend insert remove reverse setdefault sort args encode
decode hex fromhex format register mro elements open input law""".split())
OPERATORS = set("""__add__ __and__ __or__ __sub__ __xor__ __invert__ __bool__ __contains__ __getitem__ __iter__ __call__
__enter__ __exit__ __init__ __eq__ __str__ __len__""".split())

# Printing examples gives the builtins one name more.
BUILTINS = set(dir(builtins)) - {"_"}


def classes():
    return [node for path in FILES for node in nodes(path, ast.ClassDef)]


def assigned(path):
    """The names of all parameters and variables of the functions of a file."""
    found = {node.arg for node in nodes(path, ast.arg)}
    return found | {node.id for function in nodes(path, ast.FunctionDef) for node in ast.walk(function)
                    if isinstance(node, ast.Name) and isinstance(node.ctx, ast.Store)}


class Names(unittest.TestCase):
    def test_no_attribute_has_the_name_of_a_method_or_a_property(self):
        methods = {node.name for one in classes() for node in one.body if isinstance(node, ast.FunctionDef)}
        stored = {node.attr for path in FILES for node in nodes(path, ast.Attribute) if isinstance(node.ctx, ast.Store)}
        self.assertEqual(stored & (methods | ATTRIBUTES), set())
        marked = {node.name for one in classes() for node in one.body if getattr(node, "decorator_list", [])}
        plain = {node.name for one in classes() for node in one.body if getattr(node, "decorator_list", None) == []}
        self.assertEqual(marked & plain, set())
        self.assertLessEqual({name for name in methods if name.startswith("__")}, OPERATORS)

    def test_no_variable_has_the_name_of_a_builtin_a_class_or_an_import(self):
        for path in FILES:
            barred = BUILTINS | {node.name for node in nodes(path, ast.ClassDef)}
            barred |= {alias.name for node in nodes(path, ast.ImportFrom) for alias in node.names}
            self.assertEqual(assigned(path) & barred, set(), path)

    def test_kept_answers_are_read_in_their_properties_alone(self):
        for one in classes():
            for node in one.body:
                if isinstance(node, ast.FunctionDef) and isinstance(node.body[-2:][0], ast.If) \
                        and [getattr(mark, "id", "") for mark in node.decorator_list] == ["property"]:
                    kept = node.body[-1].value.attr
                    found = [other.attr for path in FILES for other in nodes(path, ast.Attribute) if other.attr == kept]
                    self.assertEqual(len(found), 4, kept)


class DoubleUnderscores(unittest.TestCase):
    def found(self, *names):
        return [(one.name, node) for one in classes() for node in one.body if getattr(node, "name", "") in names]

    def test_texts_add_nothing_and_end_as_they_may(self):
        found = self.found("__str__", "__repr__")
        self.assertGreater(len(found), 4)
        for name, node in found:
            signs = [other.op for other in ast.walk(node) if isinstance(other, (ast.BinOp, ast.AugAssign))]
            self.assertEqual([sign for sign in signs if isinstance(sign, ast.Add)], [], name)
            self.assertIsInstance(node.body[-1], ast.Return, name)
            for other in ast.walk(node):
                if isinstance(other, ast.Return):
                    joined = isinstance(other.value, ast.Call) and ast.unparse(other.value.func) in ("', '.join", "str")
                    told = isinstance(other.value, ast.JoinedStr) or isinstance(getattr(other.value, "value", 0), str)
                    self.assertTrue(joined or told, name)

    def test_lengths_are_measured(self):
        for name, node in self.found("__len__"):
            self.assertRegex(ast.unparse(node.body[-1]), r"\Areturn len\(.*\)\Z", name)

    def test_texts_lengths_and_comparisons_change_nothing(self):
        for name, node in self.found("__str__", "__repr__", "__len__", "__eq__"):
            for other in ast.walk(node):
                self.assertNotIsInstance(other, (ast.AugAssign, ast.Delete, ast.AnnAssign), name)
                if isinstance(other, ast.Assign):
                    self.assertTrue(all(isinstance(target, ast.Name) for target in other.targets), name)


    def test_the_end_of_a_block_does_nearly_nothing(self):
        found = self.found("__exit__")
        self.assertGreater(len(found), 0)
        for name, node in found:
            for other in ast.walk(node):
                self.assertNotIsInstance(other, (ast.BinOp, ast.AugAssign, ast.Raise, ast.Return, ast.Compare, ast.If), name)
                if isinstance(other, ast.Call):
                    self.assertIn(other.func.attr, ("append", "clear"))


class Calls(unittest.TestCase):
    def test_only_the_methods_of_the_language(self):
        own = {node.name for path in FILES for node in nodes(path, ast.FunctionDef)}
        for path in FILES:
            for node in nodes(path, ast.Call):
                if isinstance(node.func, ast.Attribute):
                    self.assertIn(node.func.attr, METHODS | own, path)

    def test_only_the_builtins_of_the_language(self):
        for path in FILES:
            used = {node.id for node in nodes(path, ast.Name)} & BUILTINS
            self.assertLessEqual(used, CALLED | ERRORS | {"property", "classmethod", "staticmethod"}, path)

    def test_no_generator_no_handler_and_no_sorting_in_place(self):
        for path in FILES:
            self.assertEqual(nodes(path, ast.GeneratorExp, ast.Yield, ast.YieldFrom, ast.Global, ast.Try), [], path)
            self.assertNotIn("sort", [node.attr for node in nodes(path, ast.Attribute)], path)

    def test_is_stands_beside_none_true_and_false(self):
        for path in FILES:
            for node in nodes(path, ast.Compare):
                for sign, other in zip(node.ops, node.comparators):
                    if isinstance(sign, (ast.Is, ast.IsNot)):
                        plain = isinstance(other, ast.Constant) and other.value in (None, True, False)
                        self.assertTrue(plain or ast.unparse(node.left).startswith("type("), path)

    def test_no_file_imports_itself_through_others(self):
        behind = {}
        for path in FILES:
            name = ".".join(path.relative_to(PACKAGE.parent).with_suffix("").parts)
            behind[name] = {node.module for node in nodes(path, ast.ImportFrom)}
        while behind:
            ready = [name for name in behind if not behind[name] & set(behind)]
            self.assertNotEqual(ready, [], behind)
            behind = {name: held for name, held in behind.items() if name not in ready}


if __name__ == "__main__":
    unittest.main()
