"""Some rules of the language subset, as far as the code shows them plainly."""

import ast
import builtins
import io
import os
import re
import tokenize
import unittest

FOLDER = os.path.join(os.path.dirname(os.path.dirname(os.path.abspath(__file__))), "wedgespace")

BUILTINS = set("""len range enumerate zip min max sum abs sorted reversed int str bool list tuple dict
    set isinstance ord repr any all divmod pow iter next super ValueError TypeError KeyError IndexError
    Exception""".split())

LIBRARY = {
    "heapq": "heapify heappop heappush heappushpop heapreplace", "math": "comb factorial gcd isqrt lcm perm",
    "itertools": "combinations permutations product", "collections": "defaultdict"}

METHODS = set("""append clear copy count endswith extend find get index insert isalnum isalpha isdigit
    islower isspace isupper items join keys ljust lower lstrip partition pop remove replace reverse
    rfind rjust rpartition rsplit rstrip setdefault split splitlines startswith strip update upper
    values zfill bit_length add discard __init__ __enter__ __exit__""".split())

# Words that stand nowhere in a file, and words that are only no names there.
WORDS = "typing enum Enum Generic Protocol ABC namedtuple".split()
NO_NAMES = set("""open input law register mro elements eval exec compile globals locals vars dir
    id type""".split())


def files():
    """Return the pairs of the name and the text of each file of the package."""
    found = []
    for name in sorted(os.listdir(FOLDER)):
        if name != "__pycache__":
            with open(os.path.join(FOLDER, name), encoding="utf-8") as file:
                found.append((name, file.read()))
    return found


def own_methods():
    """Return the set of the names of all methods of the package."""
    classes = [node for _, text in files() for node in ast.walk(ast.parse(text)) if isinstance(node, ast.ClassDef)]
    return {node.name for one in classes for node in one.body if isinstance(node, ast.FunctionDef)}


class RulesTest(unittest.TestCase):
    def test_files(self):
        for name, text in files():
            self.assertRegex(name, r"^[a-z_][a-z0-9_]*\.py$")
            self.assertRegex(text, r"^[\n -~]*\Z")
            lines = text.split("\n")
            self.assertLess(len(lines), 400, name)
            self.assertLessEqual(max(len(line) for line in lines), 120, name)

    def test_functions_are_small(self):
        for name, text in files():
            for node in ast.walk(ast.parse(text)):
                if isinstance(node, ast.FunctionDef):
                    self.assertLessEqual(node.end_lineno - node.lineno, 39, f"{name}: {node.name}")
                    self.assertEqual(node.decorator_list, [])

    def test_imports(self):
        owned = set()
        for name, text in files():
            for node in ast.parse(text).body:
                if isinstance(node, (ast.FunctionDef, ast.ClassDef)):
                    owned.add((f"wedgespace.{name[:-3]}", node.name))
                elif isinstance(node, ast.Assign):
                    owned.add((f"wedgespace.{name[:-3]}", node.targets[0].id))
        for name, text in files():
            tree = ast.parse(text)
            self.assertFalse([node for node in ast.walk(tree) if isinstance(node, ast.Import)])
            for node in ast.walk(tree):
                if isinstance(node, ast.ImportFrom):
                    self.assertEqual(node.level, 0)
                    self.assertIn(node, tree.body)
                    for alias in node.names:
                        self.assertIsNone(alias.asname)
                        if node.module in LIBRARY:
                            self.assertIn(alias.name, LIBRARY[node.module].split(), name)
                        else:
                            self.assertIn((node.module, alias.name), owned, name)
                        uses = re.findall(rf"\b{alias.name}\b", text)
                        self.assertGreater(len(uses), 1, f"{name}: {alias.name} is not used")

    def test_no_two_files_import_from_each_other(self):
        left = {f"wedgespace.{name[:-3]}": {node.module for node in ast.walk(ast.parse(text))
                                            if isinstance(node, ast.ImportFrom) and node.module not in LIBRARY}
                for name, text in files()}
        while left:
            free = [module for module in left if not left[module] & set(left)]
            self.assertNotEqual(free, [], sorted(left))
            for module in free:
                del left[module]

    def test_stars_and_generators(self):
        for name, text in files():
            for node in ast.walk(ast.parse(text)):
                if isinstance(node, ast.Call):
                    for argument in node.args:
                        if isinstance(argument, ast.Starred):
                            self.assertIsInstance(argument.value, (ast.Name, ast.Attribute), name)
                if isinstance(node, ast.FunctionDef):
                    inside = list(ast.walk(node))
                    if any(isinstance(one, (ast.Yield, ast.YieldFrom)) for one in inside):
                        words = {one.id for one in inside if isinstance(one, ast.Name)}
                        self.assertFalse(words & {"permutations", "combinations", "product", "next"}, name)

    def test_lists_and_dicts_at_module_level_are_only_read(self):
        tables = {node.targets[0].id for _, other in files() for node in ast.parse(other).body
                  if isinstance(node, ast.Assign) and isinstance(node.value, (ast.List, ast.Dict))}
        for name, text in files():
            tree = ast.parse(text)
            for node in ast.walk(tree):
                values = []
                if isinstance(node, ast.Call) and getattr(node.func, "id", "") not in BUILTINS:
                    values = node.args + [keyword.value for keyword in node.keywords]
                elif isinstance(node, (ast.Assign, ast.Return)):
                    values = [node.value]
                for value in values:
                    self.assertNotIn(getattr(value, "id", ""), tables, name)

    def test_names(self):
        methods = METHODS | own_methods()
        for name, text in files():
            tree = ast.parse(text)
            bound = {node.name for node in ast.walk(tree) if isinstance(node, (ast.FunctionDef, ast.ClassDef))}
            bound |= {alias.name for node in ast.walk(tree) if isinstance(node, ast.ImportFrom)
                      for alias in node.names}
            stored = {node.id for node in ast.walk(tree)
                      if isinstance(node, ast.Name) and isinstance(node.ctx, ast.Store)}
            stored |= {node.arg for node in ast.walk(tree) if isinstance(node, ast.arg)}
            imported = {alias.name for node in ast.walk(tree) if isinstance(node, ast.ImportFrom)
                        for alias in node.names}
            self.assertFalse(stored & imported, name)
            self.assertEqual((stored | bound) & set(dir(builtins)) - {"__init__"}, set(), name)
            for node in ast.walk(tree):
                if isinstance(node, ast.Name) and isinstance(node.ctx, ast.Load):
                    self.assertIn(node.id, stored | bound | BUILTINS, name)
                if isinstance(node, ast.Call) and isinstance(node.func, ast.Attribute):
                    self.assertIn(node.func.attr, methods, name)
            for word in WORDS:
                self.assertNotRegex(text, rf"\b{word}\b", name)
            tokens = tokenize.generate_tokens(io.StringIO(text).readline)
            self.assertFalse({token.string for token in tokens if token.type == tokenize.NAME} & NO_NAMES, name)

    def test_statements(self):
        barred = (ast.Global, ast.AsyncFunctionDef, ast.Div)
        for name, text in files():
            for node in ast.walk(ast.parse(text)):
                self.assertNotIsInstance(node, barred, name)
                if isinstance(node, ast.Constant):
                    self.assertNotIsInstance(node.value, float)
                    if isinstance(node.value, str):
                        self.assertNotIn(chr(37), node.value)
                named = isinstance(node, (ast.FunctionDef, ast.ClassDef))
                if named and not node.name.startswith("__"):
                    self.assertIsNotNone(ast.get_docstring(node), f"{name}: {node.name}")


if __name__ == "__main__":
    unittest.main()
