"""Rules of the language that the files of the package keep to, as far as they are easily seen."""

import ast
import builtins
import pathlib
import unittest

PACKAGE = pathlib.Path(__file__).resolve().parent.parent / "wornbridges"
LIBRARY = {
    "heapq": {"heappush", "heappop", "heapify", "heapreplace", "heappushpop"},
    "math": {"gcd", "lcm", "isqrt", "comb", "perm", "factorial"},
    "itertools": {
        "product", "combinations", "permutations", "chain", "accumulate", "pairwise", "islice", "zip_longest",
    },
    "collections": {"defaultdict"},
}
BUILTINS = set(
    "len range enumerate zip min max sum abs sorted reversed int str bool bytes list tuple dict set frozenset"
    " isinstance ord repr any all divmod pow iter next map getattr hasattr setattr super property staticmethod"
    " classmethod Exception ValueError TypeError KeyError IndexError LookupError ZeroDivisionError"
    " ArithmeticError OverflowError RuntimeError NotImplementedError AttributeError StopIteration"
    " NotImplemented".split(" ")
)
BARRED = (
    ast.Global, ast.AsyncFunctionDef, ast.AsyncFor, ast.AsyncWith, ast.Await, ast.Import, ast.Div, ast.TryStar,
)


def files():
    found = sorted(PACKAGE.glob("*.py"))
    return [(path.name, path.read_bytes().decode("ascii")) for path in found]


def nodes():
    return [(name, node) for name, text in files() for node in ast.walk(ast.parse(text))]


class LanguageTest(unittest.TestCase):
    def test_there_are_files(self):
        self.assertIn("__init__.py", [name for name, _ in files()])

    def test_characters_and_sizes(self):
        for name, text in files():
            lines = text.split("\n")
            self.assertTrue(all(" " <= sign <= "~" or sign == "\n" for sign in text), name)
            self.assertLessEqual(len(lines), 399, name)
            self.assertLessEqual(max([len(line) for line in lines]), 120, name)

    def test_functions(self):
        for name, node in nodes():
            if isinstance(node, ast.FunctionDef):
                self.assertLessEqual(node.end_lineno - node.lineno + 1, 40, f"{name}: {node.name}")

    def test_imports(self):
        for name, node in nodes():
            if isinstance(node, ast.ImportFrom):
                words = {alias.name for alias in node.names}
                own = node.level == 0 and node.module.startswith("wornbridges.")
                known = words <= LIBRARY.get(node.module, set())
                self.assertTrue(own or known, f"{name}: {node.module}")

    def test_barred_statements(self):
        for name, node in nodes():
            self.assertNotIsInstance(node, BARRED, f"{name}: {getattr(node, 'lineno', 0)}")

    def test_constants(self):
        for name, node in nodes():
            if isinstance(node, ast.Constant):
                self.assertIn(node.value.__class__.__name__, ("int", "str", "bytes", "bool", "NoneType"), name)

    def test_builtins(self):
        for name, node in nodes():
            if isinstance(node, ast.Name) and hasattr(builtins, node.id):
                self.assertIsInstance(node.ctx, ast.Load, f"{name}: {node.id}")
                self.assertIn(node.id, BUILTINS, name)

    def test_left_sides_of_remainders_are_surely_numbers(self):
        for name, node in nodes():
            if isinstance(node, ast.BinOp) and isinstance(node.op, ast.Mod):
                difference = isinstance(node.left, ast.BinOp) and isinstance(node.left.op, ast.Sub)
                made = isinstance(node.left, ast.Call) and getattr(node.left.func, "id", "") in ("int", "len")
                self.assertTrue(difference or made, f"{name}: {node.lineno}")

    def test_no_percent_signs_in_strings(self):
        for name, node in nodes():
            if isinstance(node, ast.Constant) and isinstance(node.value, (str, bytes)):
                self.assertNotIn("%", str(node.value), name)

    def test_parameters_are_no_builtins(self):
        for name, node in nodes():
            if isinstance(node, ast.arg):
                self.assertFalse(hasattr(builtins, node.arg), f"{name}: {node.arg}")

    def test_attributes_have_names_of_their_own(self):
        attributes = [node for _, node in nodes() if isinstance(node, ast.Attribute)]
        stored = {node.attr for node in attributes if isinstance(node.ctx, ast.Store)}
        classes = [node for _, node in nodes() if isinstance(node, ast.ClassDef)]
        methods = {row.name for found in classes for row in found.body if isinstance(row, ast.FunctionDef)}
        self.assertEqual(stored & methods, set())

    def test_generators_have_names_of_their_own(self):
        functions = [node for _, node in nodes() if isinstance(node, ast.FunctionDef)]
        yielding, others = set(), set()
        for function in functions:
            yields = [node for node in ast.walk(function) if isinstance(node, (ast.Yield, ast.YieldFrom))]
            (yielding if yields else others).add(function.name)
        self.assertEqual(yielding & others, set())


if __name__ == "__main__":
    unittest.main()
