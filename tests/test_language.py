"""The rules of the language document that can be read off the package's files one by one.

The rules about what a run does are not tested here, and where a rule lets something pass under conditions that
are hard to see, such as sets, generators and the rarer methods, it is simply not let pass until it is needed.
"""

import ast
import builtins
import pathlib
import re
import unittest

FOLDER = pathlib.Path(__file__).resolve().parent.parent / "firstwake"
FILES = sorted(FOLDER.rglob("*.py"))
LIBRARY = {
    "heapq": {"heappush", "heappop", "heapify", "heapreplace", "heappushpop"},
    "math": {"gcd", "lcm", "isqrt", "comb", "perm", "factorial"},
    "itertools": {"product", "combinations", "permutations", "chain", "accumulate", "pairwise", "islice", "zip_longest"},
    "collections": {"defaultdict", "deque"},
}
BUILTINS = set("""
    len range enumerate zip min max sum abs sorted reversed int str bool list tuple dict set isinstance ord repr any
    all divmod pow iter next map getattr hasattr setattr super type property staticmethod classmethod
    Exception ValueError TypeError KeyError IndexError LookupError ZeroDivisionError ArithmeticError OverflowError
    RuntimeError NotImplementedError AttributeError StopIteration NotImplemented
""".split())
METHODS = set("""
    append clear copy count endswith extend find get index insert isalnum isalpha isdigit islower isspace isupper
    items join keys ljust lower lstrip partition pop remove replace reverse rfind rjust rpartition rsplit rstrip
    setdefault split splitlines startswith strip update upper values zfill bit_length sort add discard
    appendleft popleft
""".split())
DUNDERS = set("""
    __init__ __eq__ __repr__ __str__ __len__ __enter__ __exit__ __call__ __iter__ __lt__ __le__ __gt__ __ge__ __ne__
    __bool__ __contains__ __getitem__ __setitem__
""".split())
NEVER_NAMES = {"register", "mro", "elements", "open", "input", "law", "version_info", "with_traceback", "add_note"}
NEVER_WORDS = set("""
    type typing typing_extensions enum Enum IntEnum StrEnum Flag IntFlag Generic Protocol ABC ABCMeta namedtuple
    NamedTuple TypedDict TYPE_CHECKING abstractmethod
""".split())
STATEMENTS = (
    ast.Assign, ast.AugAssign, ast.AnnAssign, ast.If, ast.While, ast.For, ast.Return, ast.Break, ast.Continue,
    ast.Pass, ast.Raise, ast.Assert, ast.Delete, ast.Nonlocal, ast.Match, ast.With, ast.Try, ast.Expr,
    ast.FunctionDef, ast.ClassDef, ast.ImportFrom,
)


def tree_of(file):
    return ast.parse(file.read_text(encoding="utf-8"))


def docstrings(tree):
    """Return the nodes of all docstrings."""
    found = []
    for node in ast.walk(tree):
        if isinstance(node, (ast.Module, ast.ClassDef, ast.FunctionDef)) and node.body:
            first = node.body[0]
            if isinstance(first, ast.Expr) and isinstance(first.value, ast.Constant):
                found.append(first.value)
    return found


def bound_names(tree):
    """Return all names that the file gives to something of its own, attributes apart."""
    found = []
    for node in ast.walk(tree):
        if isinstance(node, ast.Name) and not isinstance(node.ctx, ast.Load):
            found.append(node.id)
        elif isinstance(node, ast.arg):
            found.append(node.arg)
        elif isinstance(node, (ast.FunctionDef, ast.ClassDef)):
            found.append(node.name)
        elif isinstance(node, ast.ExceptHandler) and node.name:
            found.append(node.name)
    return found


def module_names(tree):
    """Return the list of the names that are bound at module level, imports apart."""
    found = []
    for node in tree.body:
        if isinstance(node, (ast.FunctionDef, ast.ClassDef)):
            found.append(node.name)
        elif isinstance(node, ast.Assign):
            found.extend(target.id for target in node.targets)
    return found


def imported(tree):
    """Return a dict from the file's imported names to their modules."""
    return {
        alias.name: node.module for node in ast.walk(tree) if isinstance(node, ast.ImportFrom) for alias in node.names
    }


class Language(unittest.TestCase):
    def test_files(self):
        for file in FOLDER.rglob("*"):
            if "__pycache__" not in file.parts:
                self.assertTrue(re.fullmatch(r"[a-z_][a-z0-9_]*\.py", file.name), file)
        self.assertIn(FOLDER / "__init__.py", FILES)
        self.assertLessEqual(len(FILES), 100)

    def test_sizes_and_characters(self):
        for file in FILES:
            text = file.read_text(encoding="utf-8")
            lines = text.splitlines()
            self.assertLessEqual(len(lines), 399, file)
            self.assertLessEqual(max(map(len, lines)), 120, file)
            self.assertTrue(re.fullmatch(r"[ -~\n]*", text), file)
            for node in ast.walk(tree_of(file)):
                if isinstance(node, ast.FunctionDef):
                    self.assertLessEqual(node.end_lineno - node.lineno + 1, 40, (file, node.name))

    def test_imports(self):
        for file in FILES:
            for node in ast.walk(tree_of(file)):
                self.assertNotIsInstance(node, ast.Import, file)
                if isinstance(node, ast.ImportFrom):
                    self.assertEqual((node.level, [alias.asname for alias in node.names]), (0, [None] * len(node.names)))
                    self.assertIn(node, tree_of_body(file, node), file)
                    names = {alias.name for alias in node.names}
                    if node.module in LIBRARY:
                        self.assertLessEqual(names, LIBRARY[node.module], file)
                    else:
                        package, name = node.module.split(".")
                        self.assertEqual(package, "firstwake", file)
                        self.assertLessEqual(names, set(module_names(tree_of(FOLDER / f"{name}.py"))), file)

    def test_no_files_import_each_other(self):
        uses = {f"firstwake.{file.stem}": set(imported(tree_of(file)).values()) for file in FILES}
        free = set(LIBRARY)
        while ready := [name for name in uses if name not in free and uses[name] <= free]:
            free.update(ready)
        self.assertEqual(set(uses) - free, set())

    def test_module_level(self):
        for file in FILES:
            tree = tree_of(file)
            for node in tree.body:
                self.assertIsInstance(node, (ast.Expr, ast.ImportFrom, ast.Assign, ast.FunctionDef, ast.ClassDef), file)
                if isinstance(node, ast.Expr):
                    self.assertIn(node.value, docstrings(tree))
                if isinstance(node, ast.Assign):
                    self.assertEqual([type(target) for target in node.targets], [ast.Name], file)
                    self.assertFalse(any(isinstance(part, (ast.Call, ast.Set)) for part in ast.walk(node)), file)
            names = module_names(tree) + list(imported(tree))
            self.assertEqual(sorted(names), sorted(set(names)), file)

    def test_statements(self):
        for file in FILES:
            for node in ast.walk(tree_of(file)):
                if isinstance(node, ast.stmt):
                    self.assertIsInstance(node, STATEMENTS, file)
                self.assertNotIsInstance(node, (ast.Await, ast.AsyncFor, ast.Div), file)
                if isinstance(node, ast.Constant):
                    self.assertIn(type(node.value), [int, str, bytes, bool, type(None)], file)

    def test_tables_are_not_changed_or_passed_on(self):
        for file in FILES:
            tree = tree_of(file)
            tables = [
                node.targets[0].id for node in tree.body
                if isinstance(node, ast.Assign) and isinstance(node.value, (ast.List, ast.Dict))
            ]
            read = [
                node.value.id for node in ast.walk(tree)
                if isinstance(node, ast.Subscript) and isinstance(node.value, ast.Name) and isinstance(node.ctx, ast.Load)
            ] + [
                part.id for node in ast.walk(tree) if isinstance(node, ast.Compare)
                for part in node.comparators if isinstance(part, ast.Name)
            ]
            for name in tables:
                used = [node for node in ast.walk(tree) if isinstance(node, ast.Name) and node.id == name]
                self.assertEqual(len(used) - 1, read.count(name), (file, name))

    def test_names(self):
        for file in FILES:
            tree = tree_of(file)
            attributes = [node.attr for node in ast.walk(tree) if isinstance(node, ast.Attribute)]
            for name in bound_names(tree) + attributes:
                self.assertTrue(re.fullmatch(r"_|_?[A-Za-z][A-Za-z0-9_]*", name) or name in DUNDERS, (file, name))
                self.assertNotIn(name, NEVER_NAMES, file)
            methods = [
                node for owner in ast.walk(tree) if isinstance(owner, ast.ClassDef) for node in owner.body
                if isinstance(node, ast.FunctionDef)
            ]
            # The examples of other tests leave a builtin "_" behind, which is none of Python's own.
            for name in set(bound_names(tree)) - {node.name for node in methods} - {"_"}:
                self.assertFalse(hasattr(builtins, name), (file, name))
            for node in ast.walk(tree):
                if isinstance(node, ast.Name) and node.id == "_":
                    self.assertNotIsInstance(node.ctx, ast.Load, file)

    def test_no_import_or_class_has_another_meaning(self):
        for file in FILES:
            tree = tree_of(file)
            classes = [node.name for node in ast.walk(tree) if isinstance(node, ast.ClassDef)]
            for node in ast.walk(tree):
                if isinstance(node, ast.FunctionDef):
                    inner = [name for part in node.body for name in bound_names(part)]
                    for name in inner + [part.arg for part in ast.walk(node.args) if isinstance(part, ast.arg)]:
                        self.assertNotIn(name, classes + list(imported(tree)), file)

    def test_builtins_and_methods(self):
        for file in FILES:
            tree = tree_of(file)
            own = set(bound_names(tree)) | set(imported(tree))
            for node in ast.walk(tree):
                if isinstance(node, ast.Name) and isinstance(node.ctx, ast.Load) and node.id not in own:
                    self.assertIn(node.id, BUILTINS, file)
                if isinstance(node, ast.Call) and isinstance(node.func, ast.Attribute):
                    methods = {
                        part.name for other in FILES for owner in tree_of(other).body if isinstance(owner, ast.ClassDef)
                        for part in owner.body if isinstance(part, ast.FunctionDef)
                    }
                    self.assertIn(node.func.attr, METHODS | methods, file)

    def test_words_in_strings(self):
        for file in FILES:
            tree = tree_of(file)
            told = docstrings(tree)
            for node in ast.walk(tree):
                if isinstance(node, ast.Constant) and isinstance(node.value, str) and node not in told:
                    self.assertEqual(NEVER_WORDS & set(re.findall(r"\w+", node.value)), set(), file)
                    self.assertNotIn("%", node.value, file)
                    self.assertFalse(re.fullmatch(r"__.*__", node.value), file)

    def test_classes(self):
        for file in FILES:
            for node in ast.walk(tree_of(file)):
                if isinstance(node, ast.ClassDef):
                    self.assertEqual((node.decorator_list, node.keywords), ([], []), file)
                    names = [part.name for part in node.body if isinstance(part, ast.FunctionDef)]
                    self.assertEqual(sorted(names), sorted(set(names)), file)
                elif isinstance(node, ast.FunctionDef):
                    self.assertEqual(node.decorator_list, [], file)

    def test_attributes_are_assigned_through_a_name(self):
        for file in FILES:
            for node in ast.walk(tree_of(file)):
                if isinstance(node, ast.Attribute) and not isinstance(node.ctx, ast.Load):
                    self.assertIsInstance(node.value, ast.Name, (file, node.lineno))

    def test_no_name_is_a_method_and_an_attribute(self):
        methods, attributes = set(), set()
        for file in FILES:
            for node in ast.walk(tree_of(file)):
                if isinstance(node, ast.ClassDef):
                    methods.update(part.name for part in node.body if isinstance(part, ast.FunctionDef))
                elif isinstance(node, ast.Attribute) and not isinstance(node.ctx, ast.Load):
                    attributes.add(node.attr)
        self.assertEqual(methods & attributes, set())

    def test_a_package_with_equal_and_measured_objects(self):
        # Much is barred then from a "try", so there is none; and no list is sorted in place.
        for file in FILES:
            for node in ast.walk(tree_of(file)):
                self.assertNotIsInstance(node, ast.Try, file)
                if isinstance(node, ast.Attribute):
                    self.assertNotEqual(node.attr, "sort", file)
                if isinstance(node, ast.FunctionDef) and node.name == "__len__":
                    self.assertEqual([ast.unparse(part).split("(")[0] for part in node.body], ["return len"], file)

    def test_what_a_loop_goes_over_is_not_changed_in_it(self):
        changing = {"append", "clear", "extend", "insert", "pop", "remove", "reverse", "setdefault", "update"}
        for file in FILES:
            for loop in ast.walk(tree_of(file)):
                if isinstance(loop, ast.For):
                    over = gone_over(loop.iter)
                    for node in [part for row in loop.body for part in ast.walk(row)]:
                        if isinstance(node, ast.Call) and isinstance(node.func, ast.Attribute) and node.func.attr in changing:
                            self.assertNotIn(ast.unparse(node.func.value), over, (file, node.lineno))
                        if isinstance(node, ast.Subscript) and not isinstance(node.ctx, ast.Load):
                            self.assertNotIn(ast.unparse(node.value), over, (file, node.lineno))

    def test_is_stands_beside_none(self):
        for file in FILES:
            for node in ast.walk(tree_of(file)):
                if isinstance(node, ast.Compare):
                    for sign, other in zip(node.ops, node.comparators):
                        if isinstance(sign, (ast.Is, ast.IsNot)):
                            self.assertTrue(isinstance(other, ast.Constant), (file, node.lineno))

    def test_no_generator_expressions(self):
        for file in FILES:
            for node in ast.walk(tree_of(file)):
                self.assertNotIsInstance(node, (ast.GeneratorExp, ast.Yield, ast.YieldFrom), file)

    def test_sets_are_measured_or_searched_at_once(self):
        for file in FILES:
            tree = tree_of(file)
            used = [part for node in ast.walk(tree) for part in set_places(node)]
            for node in ast.walk(tree):
                if is_set(node):
                    self.assertIn(node, used, (file, node.lineno))


def tree_of_body(file, wanted):
    """Return the module-level statements that are written like the wanted one, in a list with it if there is one."""
    return [wanted for node in tree_of(file).body if ast.dump(node) == ast.dump(wanted)]


def gone_over(node):
    """Return the texts of what a loop over this goes over, itself or through a view of it."""
    if isinstance(node, ast.Call) and isinstance(node.func, ast.Name) and node.func.id in ("enumerate", "zip", "reversed"):
        return {text for part in node.args for text in gone_over(part)}
    if isinstance(node, ast.Call) and isinstance(node.func, ast.Attribute) and node.func.attr in ("items", "keys", "values"):
        return {ast.unparse(node.func.value)}
    return {ast.unparse(node)}


def is_set(node):
    if isinstance(node, ast.Call):
        return isinstance(node.func, ast.Name) and node.func.id == "set"
    return isinstance(node, (ast.Set, ast.SetComp))


def set_places(node):
    """Return the parts of the node that may be sets."""
    if isinstance(node, ast.Call) and isinstance(node.func, ast.Name) and node.func.id in ("len", "sorted"):
        return node.args
    if isinstance(node, ast.Compare):
        return [node.left, *node.comparators]
    if isinstance(node, ast.Assign) and isinstance(node.targets[0], ast.Name):
        return [node.value]
    return []


if __name__ == "__main__":
    unittest.main()
