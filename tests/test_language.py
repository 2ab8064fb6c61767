"""The rules of LANGUAGE.md that can be told from the code alone; each test names the rules that it guards."""

import ast
import builtins
import pathlib
import re
import unittest

PACKAGE = pathlib.Path(__file__).resolve().parent.parent / "enoughchecks"
FILES = sorted(PACKAGE.glob("*.py"))

LIBRARY = {
    "heapq": {"heappush", "heappop", "heapify", "heapreplace", "heappushpop"},
    "math": {"gcd", "lcm", "isqrt", "comb", "perm", "factorial"},
    "itertools": {"product", "combinations", "permutations", "chain", "accumulate", "pairwise", "islice",
                  "zip_longest"},
    "collections": {"defaultdict", "deque"},
}
BUILTINS = set(
    "len range enumerate zip min max sum abs sorted reversed int str bool list tuple dict set frozenset isinstance"
    " ord repr any all divmod pow bytes iter next map type Exception ValueError TypeError KeyError IndexError LookupError"
    " ZeroDivisionError ArithmeticError OverflowError RuntimeError NotImplementedError AttributeError StopIteration"
    " NotImplemented True False None".split())
METHODS = set(
    "append clear copy count endswith extend find get index insert isalnum isalpha isdigit islower isspace isupper"
    " items join keys ljust lower lstrip partition pop remove replace reverse rfind rjust rpartition rsplit rstrip"
    " setdefault split splitlines startswith strip update upper values zfill bit_length add discard title capitalize"
    " swapcase casefold center removeprefix removesuffix rindex isascii isdecimal isnumeric encode".split())
SPECIAL = {"__init__", "__eq__", "__repr__", "__str__", "__len__", "__enter__", "__exit__", "__call__", "__iter__"}
# Some of these the rules allow; the package does without them, so that fewer rules can be broken.
BARRED = (
    ast.AsyncFunctionDef, ast.AsyncFor, ast.AsyncWith, ast.Await, ast.Global, ast.Import, ast.TryStar, ast.Div,
    ast.MatMult, ast.NamedExpr, ast.Yield, ast.YieldFrom, ast.GeneratorExp, ast.With, ast.Match)


def parsed():
    return [(path.name, ast.parse(path.read_text())) for path in FILES]


def bound_names(tree):
    """Each name that is a parameter, or that an assignment, a loop or a comprehension binds."""
    for node in ast.walk(tree):
        if isinstance(node, ast.arg):
            yield node.arg
        if isinstance(node, ast.Name) and isinstance(node.ctx, ast.Store):
            yield node.id


class Files(unittest.TestCase):
    def test_l1_l14_only_plain_files(self):
        for path in PACKAGE.iterdir():
            if path.name != "__pycache__":
                self.assertRegex(path.name, r"^[a-z_][a-z0-9_]*\.py$")
        self.assertTrue((PACKAGE / "__init__.py").is_file())
        self.assertLessEqual(len(FILES), 100)

    def test_l10_l14_sizes_and_signs(self):
        for path in FILES:
            text = path.read_text()
            self.assertLessEqual(len(text.splitlines()), 399, path.name)
            self.assertTrue(all(sign == "\n" or " " <= sign <= "~" for sign in text), path.name)
            for line in text.splitlines():
                self.assertLessEqual(len(line), 120, f"{path.name}: {line}")

    def test_l10_functions_of_40_lines_at_most(self):
        for name, tree in parsed():
            for node in ast.walk(tree):
                if isinstance(node, ast.FunctionDef):
                    self.assertLessEqual(node.end_lineno - node.lineno + 1, 40, f"{name}: {node.name}")


class Imports(unittest.TestCase):
    def test_l2_l16_from_the_very_file_that_defines_the_name(self):
        trees = dict(parsed())
        for name, tree in trees.items():
            for node in ast.walk(tree):
                if not isinstance(node, ast.ImportFrom):
                    continue
                self.assertIn(node, tree.body, name)
                self.assertEqual(node.level, 0, name)
                self.assertTrue(all(alias.asname is None for alias in node.names), name)
                words = {alias.name for alias in node.names}
                if node.module in LIBRARY:
                    self.assertLessEqual(words, LIBRARY[node.module], name)
                    continue
                package, _, module = node.module.partition(".")
                self.assertEqual(package, "enoughchecks", name)
                own = {part.name for part in trees[f"{module}.py"].body if hasattr(part, "name")}
                own |= {part.targets[0].id for part in trees[f"{module}.py"].body if isinstance(part, ast.Assign)}
                self.assertLessEqual(words, own, name)

    def test_l16_no_two_files_import_from_each_other(self):
        heads = {name: {node.module.split(".")[-1] + ".py" for node in tree.body if isinstance(node, ast.ImportFrom)}
                 for name, tree in parsed()}
        left = dict(heads)
        while left:
            free = [name for name, needed in left.items() if not any(other in left for other in needed)]
            self.assertTrue(free, f"a ring of imports among {sorted(left)}")
            left = {name: needed for name, needed in left.items() if name not in free}


class Shape(unittest.TestCase):
    def test_l3_l5_what_stands_at_module_level_and_in_classes(self):
        for name, tree in parsed():
            for at, node in enumerate(tree.body):
                plain = isinstance(node, (ast.ImportFrom, ast.FunctionDef, ast.ClassDef, ast.Assign))
                text = at == 0 and isinstance(node, ast.Expr) and isinstance(node.value, ast.Constant)
                self.assertTrue(plain or text, f"{name}: {node.lineno}")
            for node in ast.walk(tree):
                if isinstance(node, (ast.FunctionDef, ast.ClassDef)):
                    self.assertEqual(node.decorator_list, [], f"{name}: {node.name}")
                    self.assertTrue(ast.get_docstring(node) or node.name.startswith("__"), f"{name}: {node.name}")

    def test_l6_l7_only_the_plain_part_of_the_language(self):
        for name, tree in parsed():
            for node in ast.walk(tree):
                self.assertNotIsInstance(node, BARRED, f"{name}: {getattr(node, 'lineno', '')}")
                if isinstance(node, ast.Constant):
                    self.assertNotIsInstance(node.value, (float, complex), name)
                    self.assertNotIn("%", node.value if isinstance(node.value, str) else "", name)

    def test_l7_no_star_in_an_index(self):
        for name, tree in parsed():
            for node in ast.walk(tree):
                if isinstance(node, ast.Subscript):
                    for part in ast.walk(node.slice):
                        self.assertNotIsInstance(part, ast.Starred, f"{name}: {node.lineno}")

    def test_l7_only_plain_things_behind_the_star_of_a_call(self):
        for name, tree in parsed():
            for node in ast.walk(tree):
                for part in node.args if isinstance(node, ast.Call) else []:
                    if isinstance(part, ast.Starred):
                        self.assertIsInstance(part.value, ast.Name, f"{name}: {node.lineno}")
                        word = getattr(node.func, "id", "")
                        self.assertTrue(word in ("zip", "min", "max") or not hasattr(builtins, word), f"{name}: {word}")

    def test_l6_l19_what_is_caught_and_what_stands_in_a_finally(self):
        own = {node.name for name, tree in parsed() for node in tree.body if name == "errors.py"
               and isinstance(node, ast.ClassDef)}
        for name, tree in parsed():
            for node in ast.walk(tree):
                if isinstance(node, ast.ExceptHandler):
                    self.assertIn(getattr(node.type, "id", None), own, f"{name}: {node.lineno}")
                for part in node.finalbody if isinstance(node, ast.Try) else []:
                    self.assertIsInstance(part, ast.Assign, f"{name}: {part.lineno}")
                    self.assertFalse([one for one in ast.walk(part) if isinstance(one, (ast.Call, ast.Subscript))])

    def test_l12_l20_a_lone_stroke_is_never_read_and_is_stands_beside_none(self):
        for name, tree in parsed():
            for node in ast.walk(tree):
                if isinstance(node, ast.Name) and node.id == "_":
                    self.assertIsInstance(node.ctx, ast.Store, f"{name}: {node.lineno}")
                if isinstance(node, ast.Compare) and isinstance(node.ops[0], (ast.Is, ast.IsNot)):
                    self.assertIsInstance(node.comparators[0], ast.Constant, f"{name}: {node.lineno}")

    def test_l15_tables_at_module_level_hold_no_lists_and_no_dicts(self):
        for name, tree in parsed():
            for node in tree.body:
                if isinstance(node, ast.Assign):
                    for part in ast.walk(node.value):
                        if part != node.value:
                            self.assertNotIsInstance(part, (ast.List, ast.Dict, ast.Set, ast.Call), f"{name}: {part}")

    def test_l8_l22_only_the_builtins_that_are_named(self):
        barred = set(dir(builtins)) - BUILTINS
        for name, tree in parsed():
            for node in ast.walk(tree):
                if isinstance(node, ast.Name):
                    self.assertNotIn(node.id, barred, f"{name}: {node.lineno}")

    def test_l12_l15_names(self):
        for name, tree in parsed():
            heads = {node.name for node in tree.body if isinstance(node, ast.ClassDef)}
            for node in tree.body:
                if isinstance(node, ast.ImportFrom):
                    heads.update(alias.name for alias in node.names)
            for word in bound_names(tree):
                self.assertNotIn(word, heads, name)
                self.assertFalse(hasattr(builtins, word), f"{name}: {word}")
                self.assertTrue(re.fullmatch(r"_?[A-Za-z][A-Za-z0-9_]*|_", word), f"{name}: {word}")
            for node in ast.walk(tree):
                if isinstance(node, (ast.FunctionDef, ast.ClassDef)) and node.name not in SPECIAL:
                    self.assertFalse(hasattr(builtins, node.name), f"{name}: {node.name}")
                    self.assertFalse(node.name.startswith("__"), f"{name}: {node.name}")

    def test_l24_sets_are_only_tested_or_sorted(self):
        for name, tree in parsed():
            for node in ast.walk(tree):
                if isinstance(node, (ast.For, ast.comprehension)):
                    called = node.iter.func if isinstance(node.iter, ast.Call) else node.iter
                    self.assertFalse(isinstance(called, ast.Name) and called.id in ("set", "frozenset"), name)
                    self.assertNotIsInstance(node.iter, (ast.Set, ast.SetComp), name)

    def test_l23_iterated_at_once(self):
        takers = {"list", "tuple", "dict", "sorted", "sum", "any", "all", "enumerate", "zip", "min", "max"}
        for name, tree in parsed():
            above = {part: node for node in ast.walk(tree) for part in ast.iter_child_nodes(node)}
            for node in ast.walk(tree):
                if not isinstance(node, ast.Call):
                    continue
                word = getattr(node.func, "id", getattr(node.func, "attr", None))
                plain = isinstance(node.func, ast.Name)
                if word in (("zip", "enumerate", "reversed", "range") if plain else ("items", "keys", "values")):
                    place = above[node]
                    looped = isinstance(place, (ast.For, ast.comprehension)) and place.iter == node
                    taker = getattr(getattr(place, "func", None), "id", None)
                    turned = word == "range" and taker == "reversed"
                    self.assertTrue(looped or taker in takers or turned, f"{name}: {node.lineno}")

    def test_l24_where_sets_stand(self):
        for name, tree in parsed():
            above = {part: node for node in ast.walk(tree) for part in ast.iter_child_nodes(node)}
            for node in ast.walk(tree):
                called = isinstance(node, ast.Call) and getattr(node.func, "id", None) == "set"
                if called or isinstance(node, (ast.Set, ast.SetComp)):
                    place = above[node]
                    if isinstance(place, ast.BinOp):
                        place = above[place]
                    kept = isinstance(place, ast.Assign) and isinstance(place.targets[0], ast.Name)
                    taken = isinstance(place, ast.Call) and getattr(place.func, "id", None) in ("sorted", "len")
                    self.assertTrue(kept or taken or isinstance(place, ast.Compare), f"{name}: {node.lineno}")

    def test_l25_l26_only_the_methods_that_are_named(self):
        trees = parsed()
        own = {node.name for _, tree in trees for node in ast.walk(tree) if isinstance(node, ast.FunctionDef)}
        for name, tree in trees:
            for node in ast.walk(tree):
                if isinstance(node, ast.Call) and isinstance(node.func, ast.Attribute):
                    self.assertIn(node.func.attr, METHODS | own, f"{name}: {node.lineno}")
                    self.assertNotEqual(node.func.attr, "sort", f"{name}: {node.lineno}")


if __name__ == "__main__":
    unittest.main()
