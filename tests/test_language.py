"""What ../shared/LANGUAGE.md asks of the files of the package, as far as the code alone shows it."""

import ast
import builtins
import re
import unittest

from tests.support import PACKAGE

LIBRARY = {
    "heapq": {"heappush", "heappop", "heapify", "heapreplace", "heappushpop"},
    "math": {"gcd", "lcm", "isqrt", "comb", "perm", "factorial"},
    "itertools": {"product", "combinations", "permutations", "chain", "accumulate", "pairwise", "islice", "zip_longest"},
    "collections": {"defaultdict"}}
BUILTINS = set(
    "len range enumerate zip min max sum abs sorted reversed int str bool list tuple dict set isinstance ord repr any "
    "all divmod Exception ValueError TypeError KeyError IndexError LookupError ZeroDivisionError ArithmeticError "
    "OverflowError RuntimeError NotImplementedError NotImplemented property staticmethod classmethod map".split())
METHODS = set(
    "append clear copy count endswith extend find get index insert isalnum isalpha isdigit islower isspace isupper "
    "items join keys ljust lower lstrip partition pop remove replace reverse rfind rjust rpartition rsplit rstrip "
    "setdefault split splitlines startswith strip update upper values zfill bit_length title capitalize swapcase "
    "casefold center expandtabs removeprefix removesuffix rindex isascii isdecimal isnumeric istitle isidentifier "
    "isprintable add discard".split())
DOUBLE = set(
    "init eq repr str len enter exit call iter lt le gt ge ne add sub mul floordiv mod pow and or xor neg pos invert "
    "abs bool contains getitem setitem".split())
BARRED = set(
    "register mro elements open input law version_info with_traceback add_note attrgetter breakpoint builtins compile "
    "copyright credits delattr dir eval exec exit gc globals help id importlib license locals methodcaller os quit "
    "super type vars sys".split())
WORDS = ("type typing typing_extensions enum Enum IntEnum StrEnum Flag IntFlag Generic Protocol ABC ABCMeta namedtuple "
         "NamedTuple TypedDict TYPE_CHECKING abstractmethod").split()
STATEMENTS = (
    ast.FunctionDef, ast.ClassDef, ast.Import, ast.ImportFrom, ast.Assign, ast.AugAssign, ast.If, ast.While, ast.For,
    ast.Return, ast.Break, ast.Continue, ast.Pass, ast.Raise, ast.Assert, ast.Delete, ast.Nonlocal, ast.Try, ast.Expr)
BARRED_NODES = (
    ast.GeneratorExp, ast.Yield, ast.YieldFrom, ast.Await, ast.Div, ast.MatMult, ast.Global, ast.AsyncFunctionDef,
    ast.AnnAssign)
ATTRIBUTES = set(
    "items keys values pop update append clear extend insert remove reverse setdefault sort args encode decode hex "
    "fromhex format format_map mro".split())

FILES = sorted(PACKAGE.rglob("*.py"))


def trees():
    return [(path, ast.parse(path.read_text())) for path in FILES]


def is_barred(name):
    """Whether it is a name of Python's own, or one that is not used."""
    return (hasattr(builtins, name) and not name.startswith("__")) or name in BARRED


def own(kind):
    return {node.name for _, tree in trees() for node in ast.walk(tree) if isinstance(node, kind)}


def bound(node):
    """The names that a function binds as parameters and variables."""
    arguments = node.args
    found = [item.arg for item in [*arguments.posonlyargs, *arguments.args, *arguments.kwonlyargs]]
    found += [item.arg for item in (arguments.vararg, arguments.kwarg) if item is not None]
    return found + [item.id for item in ast.walk(node) if isinstance(item, ast.Name) and isinstance(item.ctx, ast.Store)]


class Language(unittest.TestCase):
    def each(self, *kinds):
        for path, tree in trees():
            for node in ast.walk(tree):
                if isinstance(node, kinds):
                    yield f"{path.name}:{getattr(node, 'lineno', 0)}", node

    def test_files(self):
        for path in PACKAGE.rglob("*"):
            if "__pycache__" not in path.parts:
                self.assertEqual(path.suffix, ".py", path)
                self.assertRegex(path.stem, r"^(__init__|__main__|[a-z][a-z0-9_]*)$")
                self.assertNotRegex(path.stem, r"^(law_.*|tests?|test_.*|testing|site|conftest)$")
                self.assertFalse(is_barred(path.stem), path)
            self.assertLessEqual(len(FILES), 100)
        self.assertIn(PACKAGE / "__init__.py", FILES)

    def test_sizes_and_characters(self):
        for path, tree in trees():
            lines = path.read_text().split("\n")
            self.assertLessEqual(len(lines), 399, path)
            for line in lines:
                self.assertLessEqual(len(line), 120, path)
                self.assertRegex(line, r"^[ -~]*$", path)
                self.assertNotIn("_wall", line)
            for node in ast.walk(tree):
                if isinstance(node, ast.FunctionDef):
                    self.assertLessEqual(node.end_lineno - node.lineno + 1, 40, node.name)

    def test_imports(self):
        for path, tree in trees():
            begun = False
            for node in tree.body:
                if isinstance(node, ast.ImportFrom):
                    self.assertFalse(begun, path)
                    self.check_import(path, node)
                elif not (isinstance(node, ast.Expr) and node is tree.body[0]):
                    begun = True
        for place, node in self.each(ast.Import):
            self.fail(place)

    def check_import(self, path, node):
        self.assertEqual(node.level, 0, path)
        for alias in node.names:
            self.assertIsNone(alias.asname, path)
            if node.module in LIBRARY:
                self.assertIn(alias.name, LIBRARY[node.module], path)
            else:
                self.assertRegex(node.module, r"^hindprice\.[a-z_]+$")
                tree = ast.parse((PACKAGE / f"{node.module.split('.')[1]}.py").read_text())
                defined = {item.name for item in tree.body if isinstance(item, (ast.FunctionDef, ast.ClassDef))}
                defined |= {item.targets[0].id for item in tree.body if isinstance(item, ast.Assign)}
                self.assertIn(alias.name, defined, path)

    def test_imports_are_used_and_run_in_no_circle(self):
        leads = {}
        for path, tree in trees():
            used = {node.id for node in ast.walk(tree) if isinstance(node, ast.Name)}
            leads[path.stem] = set()
            for node in ast.walk(tree):
                if isinstance(node, ast.ImportFrom):
                    for alias in node.names:
                        self.assertIn(alias.name, used, path)
                    leads[path.stem].add(node.module.split(".")[-1])
        while leads:
            free = [name for name, into in leads.items() if not into & set(leads)]
            self.assertTrue(free, leads)
            for name in free:
                del leads[name]

    def test_module_level(self):
        for path, tree in trees():
            for at, node in enumerate(tree.body):
                if isinstance(node, ast.Assign):
                    self.assertEqual(len(node.targets), 1, path)
                    self.assertIsInstance(node.targets[0], ast.Name)
                    self.check_value(tree, node.value)
                elif isinstance(node, ast.Expr):
                    self.assertEqual(at, 0, path)
                else:
                    self.assertIsInstance(node, (ast.ImportFrom, ast.FunctionDef, ast.ClassDef), path)

    def check_value(self, tree, value):
        """A plain value, or a dict of such and of functions that are defined above."""
        if not isinstance(value, ast.Dict):
            ast.literal_eval(value)
            return
        above = {item.name for item in tree.body if isinstance(item, ast.FunctionDef) and item.lineno < value.lineno}
        for key, item in zip(value.keys, value.values):
            ast.literal_eval(key)
            if isinstance(item, ast.Name):
                self.assertIn(item.id, above)
            else:
                ast.literal_eval(item)

    def test_statements_and_expressions(self):
        for place, node in self.each(ast.stmt):
            self.assertIsInstance(node, STATEMENTS, place)
        for place, node in self.each(*BARRED_NODES):
            self.fail(place)
        for place, node in self.each(ast.Pow):
            self.fail(f"{place}: use a loop")
        for place, node in self.each(ast.Constant):
            self.assertNotIsInstance(node.value, (float, complex, bytes), place)
            if isinstance(node.value, str):
                self.assertNotIn("%", node.value, place)

    def test_is_stands_beside_none_true_false(self):
        for place, node in self.each(ast.Compare):
            for by, other in zip(node.ops, node.comparators):
                if isinstance(by, (ast.Is, ast.IsNot)):
                    self.assertIn(getattr(other, "value", ""), (None, True, False), place)

    def test_names(self):
        for place, node in self.each(ast.Name):
            if hasattr(builtins, node.id):
                self.assertIn(node.id, BUILTINS, place)
            self.assertNotIn(node.id, BARRED, place)
            self.assertRegex(node.id, r"^_?[A-Za-z][A-Za-z0-9_]*$|^_$", place)

    def test_own_names(self):
        for path, tree in trees():
            outer = {alias.name for node in tree.body if isinstance(node, ast.ImportFrom) for alias in node.names}
            outer |= {node.name for node in tree.body if isinstance(node, (ast.ClassDef, ast.FunctionDef))}
            for node in ast.walk(tree):
                if isinstance(node, ast.FunctionDef):
                    for name in bound(node):
                        self.assertNotIn(name, outer, f"{path}:{node.lineno}")
                        self.assertFalse(is_barred(name), f"{path}:{node.lineno}")
        for name in own((ast.FunctionDef, ast.ClassDef)):
            self.assertFalse(is_barred(name), name)

    def test_bound_once(self):
        for path, tree in trees():
            found = []
            for node in tree.body:
                if isinstance(node, ast.ImportFrom):
                    found += [alias.name for alias in node.names]
                elif isinstance(node, (ast.ClassDef, ast.FunctionDef)):
                    found.append(node.name)
                elif isinstance(node, ast.Assign):
                    found.append(node.targets[0].id)
            self.assertEqual(len(found), len(set(found)), path)

    def test_methods(self):
        known = METHODS | own(ast.FunctionDef)
        for place, node in self.each(ast.Call):
            if isinstance(node.func, ast.Attribute):
                self.assertIn(node.func.attr, known, place)
                if node.func.attr in METHODS:
                    self.assertEqual(node.keywords, [], place)
            elif isinstance(node.func, ast.Name) and node.func.id in BUILTINS:
                self.assertLessEqual({item.arg for item in node.keywords}, {"key", "reverse", "default", "start"}, place)
        for place, node in self.each(ast.FunctionDef):
            if node.name.startswith("__"):
                self.assertIn(node.name.strip("_"), DOUBLE, place)
            for item in node.decorator_list:
                self.assertIn(getattr(item, "id", ""), ("property", "staticmethod", "classmethod"), place)

    def test_stars_in_calls(self):
        for place, node in self.each(ast.Call):
            for item in node.args:
                if isinstance(item, ast.Starred):
                    self.assertIsInstance(item.value, (ast.Name, ast.Attribute), place)
                    self.assertEqual(node.keywords, [], place)
            for item in node.keywords:
                self.assertIsNotNone(item.arg, place)

    def test_kept_ranges(self):
        for place, node in self.each(ast.FunctionDef):
            stored = [item.id for item in ast.walk(node) if isinstance(item, ast.Name) and isinstance(item.ctx, ast.Store)]
            for item in ast.walk(node):
                if isinstance(item, ast.Assign) and isinstance(item.value, ast.Call):
                    kept = getattr(item.value.func, "id", getattr(item.value.func, "attr", ""))
                    self.assertNotIn(kept, ("zip", "enumerate", "reversed", "items", "keys", "values", "map"), place)
                    if kept == "range":
                        self.assertEqual(stored.count(item.targets[0].id), 1, place)

    def test_attributes(self):
        assigned, read = set(), {}
        for place, node in self.each(ast.Attribute):
            if isinstance(node.ctx, ast.Store):
                assigned.add(node.attr)
                self.assertNotIn(node.attr, ATTRIBUTES, place)
            else:
                read[node.attr] = place
        for name, place in read.items():
            self.assertIn(name, assigned | METHODS | own(ast.FunctionDef) | {"__class__", "__name__", "maketrans"}, place)

    def test_errors(self):
        for place, node in self.each(ast.ExceptHandler):
            named = node.type.elts if isinstance(node.type, ast.Tuple) else [node.type]
            for item in named:
                self.assertTrue(item.id in own(ast.ClassDef) or item.id in ("KeyError", "ZeroDivisionError"), place)
        for place, node in self.each(ast.Raise):
            self.assertTrue(node.exc is None or isinstance(node.exc, ast.Call), place)

    def test_sets(self):
        inside = set()
        for _, tree in trees():
            for node in ast.walk(tree):
                if isinstance(node, ast.Call) and getattr(node.func, "id", "") in ("len", "sorted"):
                    inside |= {(item.lineno, item.col_offset) for item in node.args}
                if isinstance(node, ast.Compare):
                    inside |= {(item.lineno, item.col_offset) for item in node.comparators}
                if isinstance(node, ast.Assign):
                    inside.add((node.value.lineno, node.value.col_offset))
        for place, node in self.each(ast.Call, ast.Set, ast.SetComp):
            if not isinstance(node, ast.Call) or getattr(node.func, "id", "") == "set":
                self.assertIn((node.lineno, node.col_offset), inside, place)

    def test_words(self):
        for path in FILES:
            text = re.sub(r'""".*?"""', "", path.read_text(), flags=re.DOTALL)
            text = re.sub(r"#.*", "", text)
            for word in WORDS:
                self.assertNotRegex(text, rf"\b{word}\b", path)


if __name__ == "__main__":
    unittest.main()
