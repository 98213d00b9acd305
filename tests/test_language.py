"""The rules of the language that a look at the files' text and syntax can tell."""

import ast
import builtins
import pathlib
import unittest

PACKAGE = pathlib.Path(__file__).resolve().parent.parent / "fracwalk"

LIBRARY = {
    "heapq": {"heappush", "heappop", "heapify", "heapreplace", "heappushpop"},
    "math": {"gcd", "lcm", "isqrt", "comb", "perm", "factorial"},
    "itertools": {
        "product", "combinations", "permutations", "chain", "accumulate", "pairwise", "islice", "zip_longest",
    },
    "collections": {"defaultdict", "deque"},
    "__future__": {"annotations"},
}

BUILTINS = set(
    "len range enumerate zip min max sum abs sorted reversed int str bool bytes list tuple dict set isinstance ord "
    "repr any all divmod pow getattr hasattr setattr type iter next map super property staticmethod classmethod "
    "object float Exception ValueError TypeError KeyError IndexError LookupError ZeroDivisionError ArithmeticError "
    "OverflowError RuntimeError NotImplementedError AttributeError StopIteration NotImplemented".split()
)

METHODS = set(
    "append clear copy count endswith extend find get index insert isalnum isalpha isdigit islower isspace isupper "
    "items join keys ljust lower lstrip partition pop remove replace reverse rfind rjust rpartition rsplit rstrip "
    "setdefault split splitlines startswith strip update upper values zfill bit_length title capitalize swapcase "
    "casefold center expandtabs removeprefix removesuffix rindex isascii isdecimal isnumeric istitle isidentifier "
    "isprintable translate sort format add discard appendleft popleft extendleft rotate from_iterable".split()
)

STATEMENTS = (
    ast.FunctionDef, ast.ClassDef, ast.Return, ast.Delete, ast.Assign, ast.AugAssign, ast.AnnAssign, ast.For,
    ast.While, ast.If, ast.With, ast.Match, ast.Raise, ast.Try, ast.Assert, ast.ImportFrom, ast.Global,
    ast.Nonlocal, ast.Expr, ast.Pass, ast.Break, ast.Continue,
)


def files():
    return sorted(path for path in PACKAGE.rglob("*") if path.is_file() and "__pycache__" not in path.parts)


def trees():
    return [(path.name, ast.parse(path.read_text(encoding="utf-8"))) for path in files()]


class Language(unittest.TestCase):
    def test_files(self):
        for path in files():
            self.assertEqual(path.suffix, ".py", path)
            self.assertEqual(path.name, path.name.lower())
            self.assertNotRegex(path.stem, "^(test|law_|conftest|site)")
        self.assertTrue((PACKAGE / "__init__.py").is_file())

    def test_sizes_and_characters(self):
        for path in files():
            text = path.read_text(encoding="utf-8")
            lines = text.split("\n")
            self.assertLessEqual(len(lines), 400, path)
            for at, line in enumerate(lines, 1):
                where = f"{path.name}:{at}"
                self.assertLessEqual(len(line), 120, where)
                self.assertTrue(all(" " <= sign <= "~" for sign in line), where)

    def test_functions_have_at_most_40_lines(self):
        for name, tree in trees():
            for node in ast.walk(tree):
                if isinstance(node, ast.FunctionDef):
                    self.assertLessEqual(node.end_lineno - node.lineno + 1, 40, f"{name} {node.name}")

    def test_imports(self):
        for name, tree in trees():
            for node in ast.walk(tree):
                self.assertNotIsInstance(node, ast.Import, name)
                if isinstance(node, ast.ImportFrom):
                    self.assertIn(node, tree.body, name)
                    self.assertEqual(node.level, 0, name)
                    words = {alias.name for alias in node.names}
                    if node.module in LIBRARY:
                        self.assertLessEqual(words, LIBRARY[node.module], name)
                    else:
                        self.assertRegex(node.module, "^fracwalk[.]", name)
                        self.assertNotIn("*", words, name)

    def test_statements(self):
        for name, tree in trees():
            for node in ast.walk(tree):
                if isinstance(node, ast.stmt):
                    self.assertIsInstance(node, STATEMENTS, f"{name}:{node.lineno}")

    def test_module_level_binds_each_name_once(self):
        for name, tree in trees():
            bound = []
            for node in tree.body:
                if isinstance(node, ast.ImportFrom):
                    bound.extend(alias.asname or alias.name for alias in node.names)
                elif isinstance(node, (ast.FunctionDef, ast.ClassDef)):
                    bound.append(node.name)
                elif isinstance(node, ast.Assign):
                    bound.extend(target.id for target in node.targets)
                else:
                    self.assertIsInstance(node.value, ast.Constant, f"{name}:{node.lineno}")
            self.assertEqual(len(bound), len(set(bound)), name)

    def test_names(self):
        every_builtin = set(dir(builtins)) - {"_"}  # doctest may have left that one there
        for name, tree in trees():
            for node in ast.walk(tree):
                where = f"{name}:{getattr(node, 'lineno', 0)}"
                if isinstance(node, ast.Name):
                    self.assertFalse(node.id in every_builtin and node.id not in BUILTINS, where)
                    if isinstance(node.ctx, ast.Store):
                        self.assertNotIn(node.id, every_builtin, where)
                elif isinstance(node, (ast.arg, ast.FunctionDef)):
                    bound = node.arg if isinstance(node, ast.arg) else node.name
                    if isinstance(node, ast.arg) or node in tree.body:
                        self.assertNotIn(bound, every_builtin, where)

    def test_methods(self):
        own = {
            node.name for _, tree in trees() for node in ast.walk(tree) if isinstance(node, ast.FunctionDef)
        }
        for name, tree in trees():
            for node in ast.walk(tree):
                if isinstance(node, ast.Call) and isinstance(node.func, ast.Attribute):
                    self.assertIn(node.func.attr, METHODS | own, f"{name}:{node.lineno}")

    def test_what_a_class_that_compares_rules_out(self):
        # Machine has __eq__ and __len__: no generator expressions, no sort of a list, no try of Python's errors.
        for name, tree in trees():
            for node in ast.walk(tree):
                where = f"{name}:{getattr(node, 'lineno', 0)}"
                self.assertNotIsInstance(node, ast.GeneratorExp, where)
                self.assertFalse(isinstance(node, ast.Attribute) and node.attr == "sort", where)
                if isinstance(node, ast.ExceptHandler):
                    caught = {word.id for word in ast.walk(node.type) if isinstance(word, ast.Name)}
                    self.assertFalse(caught & {"ValueError", "LookupError", "IndexError"}, where)

    def test_lambdas_on_one_line_have_other_parameters(self):
        for name, tree in trees():
            seen = set()
            for node in ast.walk(tree):
                if isinstance(node, ast.Lambda):
                    where = (node.lineno, tuple(word.arg for word in node.args.args))
                    self.assertNotIn(where, seen, name)
                    seen.add(where)

    def test_comprehensions_stand_in_functions(self):
        for name, tree in trees():
            for node in tree.body:
                if not isinstance(node, (ast.FunctionDef, ast.ClassDef)):
                    for within in ast.walk(node):
                        self.assertNotIsInstance(within, (ast.ListComp, ast.DictComp, ast.SetComp, ast.Lambda), name)

    def test_no_local_name_is_that_of_an_import_or_a_class(self):
        for name, tree in trees():
            taken = {node.name for node in tree.body if isinstance(node, ast.ClassDef)}
            for node in tree.body:
                if isinstance(node, ast.ImportFrom):
                    taken.update(alias.asname or alias.name for alias in node.names)
            for node in ast.walk(tree):
                where = f"{name}:{getattr(node, 'lineno', 0)}"
                if isinstance(node, ast.Name) and isinstance(node.ctx, ast.Store):
                    self.assertNotIn(node.id, taken, where)
                if isinstance(node, ast.arg):
                    self.assertNotIn(node.arg, taken, where)

    def test_what_is_iterated_at_once(self):
        # Kept zips and enumerates are iterated once; none stands in an own call.
        lazy = {"zip", "enumerate", "reversed", "map"}
        own = {node.name for _, tree in trees() for node in ast.walk(tree) if isinstance(node, ast.FunctionDef)}
        for name, tree in trees():
            for node in ast.walk(tree):
                if isinstance(node, ast.Call):
                    called = node.func.id if isinstance(node.func, ast.Name) else getattr(node.func, "attr", "")
                    if called in own:
                        for part in node.args:
                            is_lazy = isinstance(part, ast.Call) and isinstance(part.func,
                                ast.Name) and part.func.id in lazy
                            self.assertFalse(is_lazy, f"{name}:{node.lineno}")

    def test_is_stands_beside_none_and_booleans(self):
        for name, tree in trees():
            for node in ast.walk(tree):
                if isinstance(node, ast.Compare):
                    for sign, other in zip(node.ops, node.comparators):
                        if isinstance(sign, (ast.Is, ast.IsNot)):
                            self.assertIsInstance(other, ast.Constant, f"{name}:{node.lineno}")

    def test_attributes(self):
        barred = set(
            "items keys values pop update append clear extend insert remove reverse setdefault sort args encode decode "
            "hex fromhex format mro register elements open input law".split()
        )
        for name, tree in trees():
            for node in ast.walk(tree):
                if isinstance(node, ast.Attribute) and isinstance(node.ctx, ast.Store):
                    self.assertNotIn(node.attr, barred, f"{name}:{node.lineno}")

    def test_no_file_imports_from_one_that_imports_it(self):
        imports = {
            name.removesuffix(".py"): {
                node.module.removeprefix("fracwalk.")
                for node in tree.body
                if isinstance(node, ast.ImportFrom) and node.module.startswith("fracwalk.")
            }
            for name, tree in trees()
        }
        while imports:
            free = [name for name, others in imports.items() if not others & set(imports)]
            self.assertTrue(free, imports)
            for name in free:
                del imports[name]

    def test_values(self):
        for name, tree in trees():
            for node in ast.walk(tree):
                where = f"{name}:{getattr(node, 'lineno', 0)}"
                self.assertNotIsInstance(node, ast.Div, where)
                if isinstance(node, ast.Constant):
                    self.assertNotIsInstance(node.value, (float, complex), where)
                    if isinstance(node.value, str):
                        self.assertNotIn("%", node.value, where)


if __name__ == "__main__":
    unittest.main()
