"""A look at the package's files: what can be told of the rules of the language without running them."""

import ast
import builtins
import pathlib
import re
import unittest

PACKAGE = pathlib.Path(__file__).resolve().parent.parent / "ownback"
FILES = sorted(PACKAGE.glob("*.py"))
LIBRARY = {
    "heapq": {"heappush", "heappop", "heapify", "heapreplace", "heappushpop"},
    "math": {"gcd", "lcm", "isqrt", "comb", "perm", "factorial"},
    "itertools": {"product", "combinations", "permutations", "chain", "accumulate", "pairwise", "islice", "zip_longest"},
    "collections": {"defaultdict"},
    "__future__": {"annotations"},
}
BUILTINS = set(
    "len range enumerate zip min max sum abs sorted reversed int str bool bytes list tuple dict set frozenset isinstance "
    "ord repr any all divmod pow getattr hasattr setattr iter next map Exception ValueError TypeError KeyError "
    "IndexError LookupError ZeroDivisionError ArithmeticError OverflowError RuntimeError NotImplementedError "
    "AttributeError StopIteration NotImplemented".split())
METHODS = set(
    "append clear copy count endswith extend find get index insert isalnum isalpha isdigit islower isspace isupper "
    "items join keys ljust lower lstrip partition pop remove replace reverse rfind rjust rpartition rsplit rstrip "
    "setdefault split splitlines startswith strip update upper values zfill bit_length add discard sort".split())
BARRED = ("register mro elements open input law version_info with_traceback add_note attrgetter breakpoint builtins "
          "compile copyright credits delattr dir eval exec exit gc globals help id importlib license locals methodcaller "
          "os quit super type vars sys").split()
WORDS = re.compile(r"\b(type|typing|enum|Enum|Generic|Protocol|ABC|namedtuple|NamedTuple|abstractmethod)\b")
STATEMENTS = (ast.Global, ast.AsyncFunctionDef, ast.AsyncFor, ast.AsyncWith, ast.Import, ast.Nonlocal, ast.Lambda,
              ast.With, ast.Match, ast.Yield, ast.YieldFrom, ast.Await, ast.Set, ast.Delete, ast.Assert)
LOOPED = (ast.For, ast.comprehension)


def methods_of(made):
    return [node.name for node in made.body if isinstance(node, ast.FunctionDef)]


def attributes_of(made):
    """The attributes that methods of a class assign to its own objects."""
    return [node.attr for node in ast.walk(made) if isinstance(node, ast.Attribute) and isinstance(node.ctx, ast.Store)
            and isinstance(node.value, ast.Name) and node.value.id == "self"]


def names_bound(function):
    found = [arg.arg for arg in ast.walk(function) if isinstance(arg, ast.arg)]
    for node in ast.walk(function):
        if isinstance(node, ast.Name) and isinstance(node.ctx, ast.Store):
            found.append(node.id)
    return found


class Language(unittest.TestCase):

    def trees(self):
        for path in FILES:
            yield path.name, ast.parse(path.read_text(encoding="utf-8"))

    def test_files(self):
        self.assertTrue((PACKAGE / "__init__.py").exists())
        for path in PACKAGE.iterdir():
            self.assertTrue(path.name == "__pycache__" or re.fullmatch(r"[a-z_]+\.py", path.name), path)
        for path in FILES:
            text = path.read_text(encoding="utf-8")
            self.assertRegex(text, r"\A[ -~\n]*\Z", path.name)
            rows = text.split("\n")
            self.assertLess(len(rows), 400, path.name)
            self.assertLessEqual(max(len(row) for row in rows), 120, path.name)

    def test_functions_are_small(self):
        for name, tree in self.trees():
            for node in ast.walk(tree):
                if isinstance(node, ast.FunctionDef):
                    self.assertLessEqual(node.end_lineno - node.lineno + 1, 40, (name, node.name))
                    self.assertEqual(node.decorator_list, [], (name, node.name))

    def test_imports(self):
        defined = {path.stem: {node.name for node in tree.body if isinstance(node, (ast.FunctionDef, ast.ClassDef))}
                   | {target.id for node in tree.body if isinstance(node, ast.Assign) for target in node.targets}
                   for path, (_, tree) in zip(FILES, self.trees())}
        for name, tree in self.trees():
            for node in ast.walk(tree):
                if isinstance(node, ast.ImportFrom):
                    self.assertIn(node, tree.body, name)
                    package, _, module = node.module.partition(".")
                    allowed = defined[module] if package == "ownback" else LIBRARY[node.module]
                    for alias in node.names:
                        self.assertIn(alias.name, allowed, name)
                        self.assertIsNone(alias.asname, name)

    def test_all_that_is_imported_is_used(self):
        for name, tree in self.trees():
            used = {node.id for node in ast.walk(tree) if isinstance(node, ast.Name)}
            for node in tree.body:
                if isinstance(node, ast.ImportFrom):
                    for alias in node.names:
                        self.assertIn(alias.name, used, name)

    def test_no_two_files_import_each_other(self):
        behind = {name[:-3]: [node.module.partition(".")[2] for node in tree.body if isinstance(node, ast.ImportFrom)]
                  for name, tree in self.trees()}
        while behind:
            ready = [name for name, needed in behind.items() if not any(module in behind for module in needed)]
            self.assertTrue(ready, behind)
            for name in ready:
                del behind[name]

    def test_statements_and_signs(self):
        for name, tree in self.trees():
            for node in ast.walk(tree):
                self.assertNotIsInstance(node, STATEMENTS, name)
                self.assertNotIsInstance(node, (ast.Div, ast.Pow, ast.MatMult), name)
                if isinstance(node, ast.Constant):
                    self.assertNotIsInstance(node.value, (float, complex, bytes), name)
                    if isinstance(node.value, str):
                        self.assertNotIn("%", node.value, name)
                if isinstance(node, ast.Compare):
                    self.only_plain_is(node, name)
                if isinstance(node, LOOPED):
                    self.assertNotIsInstance(node.iter, (ast.Set, ast.SetComp), name)

    def test_only_own_errors_are_caught(self):
        own = {node.name for file, tree in self.trees() for node in tree.body
               if file == "errors.py" and isinstance(node, ast.ClassDef)}
        for name, tree in self.trees():
            for node in ast.walk(tree):
                if isinstance(node, ast.Try):
                    self.assertEqual((node.orelse, node.finalbody), ([], []), name)
                    for handler in node.handlers:
                        caught = handler.type.elts if isinstance(handler.type, ast.Tuple) else [handler.type]
                        self.assertLessEqual({error.id for error in caught}, own, name)
                if isinstance(node, ast.Raise):
                    self.assertIn(node.exc.func.id, own, name)

    def only_plain_is(self, node, name):
        for sign, right in zip(node.ops, node.comparators):
            if isinstance(sign, (ast.Is, ast.IsNot)):
                self.assertTrue(isinstance(right, ast.Constant) and right.value in (None, True, False), name)

    def test_sets_stand_only_in_sorted_and_len(self):
        for name, tree in self.trees():
            held = [node.args[0] for node in ast.walk(tree) if isinstance(node, ast.Call)
                    and isinstance(node.func, ast.Name) and node.func.id in ("sorted", "len")]
            for node in ast.walk(tree):
                made = isinstance(node, ast.Call) and isinstance(node.func, ast.Name) and node.func.id == "set"
                if made or isinstance(node, ast.SetComp):
                    self.assertIn(node, held, name)

    def classes(self):
        for name, tree in self.trees():
            for node in tree.body:
                if isinstance(node, ast.ClassDef):
                    yield name, node

    def test_classes(self):
        kept = set("items keys values pop update append clear extend insert remove reverse setdefault sort args encode "
                   "decode hex fromhex format format_map".split())
        for name, made in self.classes():
            methods, attributes = methods_of(made), attributes_of(made)
            self.assertEqual(len(methods), len(set(methods)), (name, made.name))
            self.assertFalse(set(methods) & set(attributes), (name, made.name))
            self.assertFalse(set(attributes) & kept, (name, made.name))
            self.assertFalse(set(methods + attributes) & set(BARRED), (name, made.name))
            self.assertFalse(set(methods) & set(dir(int) + dir(str) + dir(list) + dir(dict) + dir(set)) - {"__init__"},
                             (name, made.name))

    def test_names(self):
        every = set(dir(builtins)) - {"_"}
        known = set(METHODS)
        for _, made in self.classes():
            known |= set(methods_of(made)) | set(attributes_of(made))
        for name, tree in self.trees():
            firm = [alias.name for node in tree.body if isinstance(node, ast.ImportFrom) for alias in node.names]
            firm += [node.name for node in tree.body if isinstance(node, ast.ClassDef)]
            own = [node.name for node in tree.body if isinstance(node, (ast.FunctionDef, ast.ClassDef))]
            for node in ast.walk(tree):
                if isinstance(node, ast.FunctionDef):
                    for bound in names_bound(node):
                        self.assertNotIn(bound, firm + own, (name, node.name))
                        self.assertNotIn(bound, every, (name, node.name))
                        self.assertNotIn(bound, BARRED, (name, node.name))
                if isinstance(node, ast.Name) and isinstance(node.ctx, ast.Load):
                    self.assertNotEqual(node.id, "_", name)
                if isinstance(node, ast.Name) and node.id in every:
                    self.assertIn(node.id, BUILTINS, name)
                if isinstance(node, ast.Attribute):
                    self.assertIn(node.attr, known, (name, node.attr))
                if isinstance(node, ast.FunctionDef) and node.name.startswith("__"):
                    self.assertEqual(node.name, "__init__")

    def test_names_are_bound_once(self):
        for name, tree in self.trees():
            bound = [alias.name for node in tree.body if isinstance(node, ast.ImportFrom) for alias in node.names]
            bound += [node.name for node in tree.body if isinstance(node, (ast.FunctionDef, ast.ClassDef))]
            bound += [target.id for node in tree.body if isinstance(node, ast.Assign) for target in node.targets]
            self.assertEqual(len(bound), len(set(bound)), name)

    def test_words(self):
        for name, tree in self.trees():
            text = (PACKAGE / name).read_text(encoding="utf-8")
            self.assertIsNone(WORDS.search(text), name)
            for row in text.split("\n"):
                self.assertEqual(row, row.rstrip(), name)

    def test_module_level(self):
        for name, tree in self.trees():
            for place, node in enumerate(tree.body):
                text = place == 0 and isinstance(node, ast.Expr) and isinstance(node.value, ast.Constant)
                kinds = (ast.ImportFrom, ast.FunctionDef, ast.ClassDef, ast.Assign)
                self.assertTrue(text or isinstance(node, kinds), (name, node.lineno))

    def test_what_a_loop_goes_over_is_not_changed_in_it(self):
        changing = ("append", "extend", "insert", "pop", "remove", "clear", "reverse", "update", "setdefault", "sort")
        for name, tree in self.trees():
            for loop in ast.walk(tree):
                if isinstance(loop, ast.For):
                    over = {node.id for node in ast.walk(loop.iter) if isinstance(node, ast.Name)}
                    for node in ast.walk(loop):
                        if isinstance(node, ast.Attribute) and node.attr in changing:
                            if isinstance(node.value, ast.Name):
                                self.assertNotIn(node.value.id, over, (name, node.lineno))
                        if isinstance(node, ast.Subscript) and isinstance(node.ctx, ast.Store):
                            if isinstance(node.value, ast.Name):
                                self.assertNotIn(node.value.id, over, (name, node.lineno))
