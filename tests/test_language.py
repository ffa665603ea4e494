"""A part of the rules that the code of the package follows: sizes, characters, imports, names, expressions."""

import ast
import builtins
import re
import unittest
from pathlib import Path

PACKAGE = Path(__file__).resolve().parent.parent / "kerbside"
FILES = sorted(PACKAGE.rglob("*.py"))
LIBRARY = {"heapq": {"heappush", "heappop", "heapify", "heapreplace", "heappushpop"},
           "math": {"gcd", "lcm", "isqrt", "comb", "perm", "factorial"},
           "itertools": {"product", "combinations", "permutations", "chain", "accumulate", "pairwise", "islice",
                         "zip_longest"},
           "collections": {"defaultdict"}}
BUILTINS = set("""len range enumerate zip min max sum abs sorted reversed int str bool list tuple dict set isinstance
    ord repr any all divmod ValueError KeyError IndexError LookupError TypeError""".split())
METHODS = set("""append clear copy count endswith extend find get index insert isalnum isalpha isdigit islower isspace
    isupper items join keys ljust lower lstrip partition pop remove replace reverse rfind rjust rpartition rsplit
    rstrip setdefault split splitlines startswith strip update upper values zfill bit_length removeprefix removesuffix
    isascii add discard""".split())
BARRED_WORDS = set("""type typing enum namedtuple dataclass overload contextmanager Generic Protocol ABC register mro
    elements open input law version_info eval exec exit compile globals locals vars dir help id""".split())
STATEMENTS = (ast.Assign, ast.AugAssign, ast.If, ast.While, ast.For, ast.Return, ast.Break, ast.Continue, ast.Pass,
              ast.Raise, ast.Assert, ast.Delete, ast.Try, ast.Expr, ast.FunctionDef, ast.ClassDef, ast.ImportFrom,
              ast.Match)


class FileTest(unittest.TestCase):
    def each(self):
        for path in FILES:
            text = path.read_text(encoding="ascii")
            yield path, text, ast.parse(text)

    def test_folder(self):
        for path in PACKAGE.rglob("*"):
            if "__pycache__" not in path.parts and path.is_file():
                self.assertEqual(path.suffix, ".py")
                self.assertRegex(path.name, r"\A[a-z_0-9]+\.py\Z")

    def test_characters_and_sizes(self):
        for path, text, tree in self.each():
            self.assertRegex(text, r"\A[ -~\n]*\Z", path)
            self.assertLessEqual(len(text.splitlines()), 399, path)
            self.assertLessEqual(max(len(line) for line in text.splitlines()), 120, path)
            for node in ast.walk(tree):
                if isinstance(node, ast.FunctionDef):
                    self.assertLessEqual(node.end_lineno - node.lineno + 1, 40, node.name)
                    self.assertEqual(node.decorator_list, [])

    def test_imports(self):
        for path, _, tree in self.each():
            for node in ast.walk(tree):
                self.assertNotIsInstance(node, ast.Import)
                if isinstance(node, ast.ImportFrom):
                    self.check_import(path, node)

    def check_import(self, path, node):
        names = {alias.name for alias in node.names}
        self.assertEqual([alias.asname for alias in node.names], [None] * len(node.names))
        if node.module in LIBRARY:
            self.assertLessEqual(names, LIBRARY[node.module])
            return
        self.assertRegex(node.module, r"\Akerbside\.[a-z_]+\Z")
        source = ast.parse((PACKAGE / (node.module.split(".")[1] + ".py")).read_text(encoding="ascii"))
        self.assertLessEqual(names, bound_at_top(source), path)

    def test_no_circles(self):
        needs = {path.stem: {node.module.split(".")[1] for node in ast.walk(tree) if isinstance(node, ast.ImportFrom)
                             and node.module.startswith("kerbside.")} for path, _, tree in self.each()}
        while needs:
            ready = [stem for stem in needs if not needs[stem] & set(needs)]
            self.assertNotEqual(ready, [], needs)
            for stem in ready:
                del needs[stem]

    def test_names(self):
        own_methods = {node.name for _, _, tree in self.each() for node in ast.walk(tree)
                       if isinstance(node, ast.FunctionDef)}
        for path, _, tree in self.each():
            taken = {alias.name for node in tree.body if isinstance(node, ast.ImportFrom) for alias in node.names}
            taken |= {node.name for node in tree.body if isinstance(node, ast.ClassDef)} | set(dir(builtins))
            for node in ast.walk(tree):
                for name in new_names(node):
                    self.assertNotIn(name, taken, path)
                    self.assertNotIn(name, BARRED_WORDS, path)
                if isinstance(node, ast.Name) and hasattr(builtins, node.id):
                    self.assertIn(node.id, BUILTINS, path)
                if isinstance(node, ast.Call) and isinstance(node.func, ast.Attribute):
                    self.assertIn(node.func.attr, METHODS | own_methods, path)

    def test_attributes_are_no_names_of_python(self):
        taken = {name for value in (int, str, list, dict, set, tuple, bytes) for name in dir(value)}
        for path, _, tree in self.each():
            for node in ast.walk(tree):
                if isinstance(node, ast.Attribute) and isinstance(node.ctx, ast.Store):
                    self.assertNotIn(node.attr, taken, path)

    def test_attributes_are_no_methods(self):
        methods, attributes = set(), set()
        for _, _, tree in self.each():
            for node in ast.walk(tree):
                if isinstance(node, ast.ClassDef):
                    methods |= {part.name for part in node.body if isinstance(part, ast.FunctionDef)}
                if isinstance(node, ast.Attribute) and isinstance(node.ctx, ast.Store):
                    attributes.add(node.attr)
        self.assertEqual(methods & attributes, set())

    def test_expressions_and_statements(self):
        for path, _, tree in self.each():
            for node in ast.walk(tree):
                where = (path.name, getattr(node, "lineno", 0))
                if isinstance(node, ast.stmt):
                    self.assertIsInstance(node, STATEMENTS, where)
                self.assertNotIsInstance(node, (ast.Div, ast.MatMult, ast.Await, ast.SetComp), where)
                if isinstance(node, ast.Constant):
                    self.assertNotIsInstance(node.value, (float, complex), where)
                if isinstance(node, ast.Constant) and isinstance(node.value, str):
                    self.assertNotIn(chr(37), node.value, where)
                if isinstance(node, ast.BinOp) and isinstance(node.op, ast.Pow):
                    self.assertIsInstance(node.right, ast.Constant, where)
                if isinstance(node, ast.ExceptHandler):
                    self.assertIsNotNone(node.type, where)

    def test_barred_words(self):
        for path, text, tree in self.each():
            for node in ast.walk(tree):
                if isinstance(node, ast.expr) and isinstance(node, (ast.Name, ast.Attribute)):
                    self.assertNotIn(node.id if isinstance(node, ast.Name) else node.attr, BARRED_WORDS, path)
            self.assertIsNone(re.search("_wall|__slots__|__dict__", text), path)


def bound_at_top(tree):
    """Returns the names that a file itself defines."""
    found = {node.name for node in tree.body if isinstance(node, (ast.FunctionDef, ast.ClassDef))}
    return found | {node.targets[0].id for node in tree.body if isinstance(node, ast.Assign)}


def new_names(node):
    """Returns the names that a node gives to parameters, variables and functions."""
    if isinstance(node, ast.arg):
        return [node.arg]
    if isinstance(node, ast.Name) and isinstance(node.ctx, ast.Store):
        return [node.id]
    return [node.name] if isinstance(node, ast.FunctionDef) else []


if __name__ == "__main__":
    unittest.main()
