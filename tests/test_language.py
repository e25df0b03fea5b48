"""The form of the code: the rules of the Python subset that a short check can see."""

import ast
import builtins
import pathlib
import re
import unittest

PACKAGE = pathlib.Path(__file__).resolve().parent.parent / "dayspread"
LIBRARY = {
    "heapq": {"heappush", "heappop", "heapify", "heapreplace", "heappushpop"},
    "math": {"gcd", "lcm", "isqrt", "comb", "perm", "factorial"},
    "itertools": {"product", "combinations", "permutations", "chain", "accumulate", "pairwise", "islice",
                  "zip_longest"},
    "collections": {"defaultdict", "deque"},
}
BUILTINS = set("""len range enumerate zip min max sum abs sorted reversed int str bool bytes list tuple dict set
    frozenset isinstance ord repr any all divmod pow getattr hasattr setattr iter next map type super property
    staticmethod classmethod NotImplemented Exception ValueError TypeError KeyError IndexError LookupError
    ZeroDivisionError ArithmeticError OverflowError RuntimeError NotImplementedError AttributeError
    StopIteration""".split())
METHODS = set("""append clear copy count endswith extend find get index insert isalnum isalpha isdigit islower isspace
    isupper items join keys ljust lower lstrip partition pop remove replace reverse rfind rjust rpartition rsplit
    rstrip setdefault split splitlines startswith strip update upper values zfill bit_length title capitalize swapcase
    casefold center expandtabs removeprefix removesuffix rindex isascii isdecimal isnumeric istitle isidentifier
    isprintable add discard appendleft popleft extendleft rotate sort __init__ from_iterable format""".split())
BARRED_NAMES = set("""register mro elements open input law version_info with_traceback add_note breakpoint builtins
    compile copyright credits delattr dir eval exec exit gc globals help id importlib license locals os quit vars sys
    print chr hash""".split())
BARRED_WORDS = re.compile(r"\b(typing|typing_extensions|enum|Enum|IntEnum|StrEnum|Flag|IntFlag|Generic|Protocol|ABC"
                          r"|ABCMeta|namedtuple|NamedTuple|TypedDict|TYPE_CHECKING|abstractmethod|global_|async|await)\b")
BARRED_NODES = (ast.GeneratorExp, ast.AsyncFunctionDef, ast.Await, ast.AsyncFor, ast.AsyncWith, ast.Div, ast.MatMult)
PLAIN_NODES = (ast.Constant, ast.Tuple, ast.List, ast.Dict, ast.Name, ast.UnaryOp, ast.USub, ast.Load, ast.BinOp,
               ast.Add, ast.Sub, ast.Mult, ast.Pow, ast.FloorDiv)


def files():
    return sorted(PACKAGE.rglob("*.py"))


def parsed():
    return {path: ast.parse(path.read_text(encoding="ascii")) for path in files()}


def module_name(path):
    parts = path.relative_to(PACKAGE.parent).with_suffix("").parts
    return ".".join(parts[:-1] if parts[-1] == "__init__" else parts)


def bound_names(node):
    """The names of functions, classes, parameters and variables that a node binds."""
    if isinstance(node, (ast.FunctionDef, ast.ClassDef)):
        return [node.name]
    if isinstance(node, ast.arg):
        return [node.arg]
    if isinstance(node, ast.Name) and isinstance(node.ctx, ast.Store):
        return [node.id]
    return []


def docstrings(tree):
    """The nodes that are docstrings."""
    found = []
    for node in ast.walk(tree):
        if isinstance(node, (ast.Module, ast.ClassDef, ast.FunctionDef)) and ast.get_docstring(node) is not None:
            found.append(node.body[0].value)
    return found


class TextTest(unittest.TestCase):
    def test_only_plain_files(self):
        for path in PACKAGE.rglob("*"):
            if "__pycache__" in path.parts:
                continue
            self.assertTrue(path.is_dir() or path.suffix == ".py", path)
            self.assertRegex(path.stem, r"\A[a-z0-9_]+\Z")
        self.assertLessEqual(len(files()), 100)
        for path in files():
            self.assertTrue((path.parent / "__init__.py").is_file())

    def test_characters_and_sizes(self):
        for path in files():
            data = path.read_bytes()
            self.assertTrue(all(sign == 10 or 32 <= sign <= 126 for sign in data), path)
            lines = data.decode("ascii").split("\n")
            self.assertLessEqual(len(lines), 400, path)
            self.assertLessEqual(max(map(len, lines)), 120, path)

    def test_functions_are_small(self):
        for path, tree in parsed().items():
            for node in ast.walk(tree):
                if isinstance(node, ast.FunctionDef):
                    self.assertLessEqual(node.end_lineno - node.lineno + 1, 40, (path, node.name))


class ImportsTest(unittest.TestCase):
    def test_what_is_imported(self):
        trees = {module_name(path): tree for path, tree in parsed().items()}
        for name, tree in trees.items():
            for node in ast.walk(tree):
                self.assertNotIsInstance(node, ast.Import, name)
                if not isinstance(node, ast.ImportFrom):
                    continue
                self.assertIn(node, tree.body, name)
                self.assertEqual(node.level, 0, name)
                for alias in node.names:
                    self.assertIsNone(alias.asname, name)
                    if node.module in LIBRARY:
                        self.assertIn(alias.name, LIBRARY[node.module], name)
                    elif node.module != "__future__":
                        self.assertIn(alias.name, self.defined(trees[node.module]), (name, node.module))

    def defined(self, tree):
        names = []
        for node in tree.body:
            if isinstance(node, (ast.FunctionDef, ast.ClassDef)):
                names.append(node.name)
            elif isinstance(node, ast.Assign):
                names.append(node.targets[0].id)
        return names

    def test_no_two_files_import_from_each_other(self):
        needs = {}
        for path, tree in parsed().items():
            modules = [node.module for node in ast.walk(tree) if isinstance(node, ast.ImportFrom)]
            needs[module_name(path)] = {module for module in modules if module.startswith("dayspread")}
        self.assertEqual(needs["dayspread"], set())
        while needs:
            free = [name for name, others in needs.items() if not others & set(needs)]
            self.assertTrue(free, needs)
            for name in free:
                del needs[name]


class NodesTest(unittest.TestCase):
    def test_module_level(self):
        for path, tree in parsed().items():
            bound = []
            for node in tree.body:
                if isinstance(node, ast.Assign):
                    self.assertEqual(len(node.targets), 1, path)
                    self.assertIsInstance(node.targets[0], ast.Name, path)
                    bound.append(node.targets[0].id)
                    for part in ast.walk(node.value):
                        self.assertIsInstance(part, PLAIN_NODES, (path, node.lineno))
                elif isinstance(node, (ast.FunctionDef, ast.ClassDef)):
                    bound.append(node.name)
                elif isinstance(node, ast.ImportFrom):
                    bound += [alias.name for alias in node.names]
                else:
                    self.assertIn(getattr(node, "value", None), docstrings(tree), (path, node.lineno))
            self.assertEqual(len(bound), len(set(bound)), path)

    def test_names(self):
        for path, tree in parsed().items():
            taken = {alias.name for node in tree.body if isinstance(node, ast.ImportFrom) for alias in node.names}
            taken |= {node.name for node in tree.body if isinstance(node, ast.ClassDef)}
            methods = {part for node in ast.walk(tree) if isinstance(node, ast.ClassDef) for part in node.body}
            for node in ast.walk(tree):
                for name in bound_names(node):
                    self.assertNotIn(name, BARRED_NAMES, (path, node.lineno))
                    if node not in methods:
                        self.assertFalse(hasattr(builtins, name), (path, node.lineno, name))
                    if node not in tree.body:
                        self.assertNotIn(name, taken if node not in methods else (), (path, node.lineno))
                if isinstance(node, ast.Name) and isinstance(node.ctx, ast.Load) and hasattr(builtins, node.id):
                    self.assertIn(node.id, BUILTINS, (path, node.lineno))

    def test_barred_parts(self):
        for path, tree in parsed().items():
            known = docstrings(tree)
            for node in ast.walk(tree):
                self.assertNotIsInstance(node, BARRED_NODES, (path, getattr(node, "lineno", 0)))
                if isinstance(node, ast.Constant):
                    self.assertNotIsInstance(node.value, (float, complex), (path, node.lineno))
                    if isinstance(node.value, str) and node not in known:
                        self.assertNotIn("%", node.value, (path, node.lineno))
                        self.assertNotRegex(node.value, BARRED_WORDS, (path, node.lineno))
                if isinstance(node, ast.Compare) and any(isinstance(sign, (ast.Is, ast.IsNot)) for sign in node.ops):
                    self.assertIsInstance(node.comparators[0], ast.Constant, (path, node.lineno))
                if isinstance(node, ast.ExceptHandler):
                    self.assertIsNotNone(node.type, (path, node.lineno))

    def test_methods(self):
        own = set()
        for tree in parsed().values():
            for node in ast.walk(tree):
                if isinstance(node, ast.ClassDef):
                    own |= {part.name for part in node.body if isinstance(part, ast.FunctionDef)}
        for path, tree in parsed().items():
            for node in ast.walk(tree):
                if isinstance(node, ast.Call) and isinstance(node.func, ast.Attribute):
                    self.assertIn(node.func.attr, METHODS | own, (path, node.lineno))


class OperatorsTest(unittest.TestCase):
    """What the operators of Spans run changes nothing but lists that it made itself."""

    FILES = ("segments", "wheels", "sharing", "normal", "spans")
    CHANGES = ("append", "extend", "insert", "pop", "remove", "clear", "reverse", "update", "setdefault")

    def functions(self):
        for path, tree in parsed().items():
            if path.stem in self.FILES:
                for node in ast.walk(tree):
                    if isinstance(node, ast.FunctionDef):
                        yield node

    def changed_names(self, function):
        for node in ast.walk(function):
            if isinstance(node, ast.Call) and isinstance(node.func, ast.Attribute) and node.func.attr in self.CHANGES:
                yield node.func.value
            if isinstance(node, ast.Subscript) and isinstance(node.ctx, (ast.Store, ast.Del)):
                yield node.value

    def is_new_list(self, value):
        if isinstance(value, ast.Call):
            return isinstance(value.func, ast.Name) and value.func.id in ("list", "sorted")
        return isinstance(value, (ast.List, ast.ListComp))

    def test_only_new_lists_are_changed(self):
        for function in self.functions():
            for changed in self.changed_names(function):
                self.assertIsInstance(changed, ast.Name, function.name)
                made = [node.value for node in ast.walk(function) if isinstance(node, ast.Assign)
                        and any(isinstance(target, ast.Name) and target.id == changed.id for target in node.targets)]
                self.assertTrue(made and all(self.is_new_list(value) for value in made), (function.name, changed.id))

    def test_attributes_are_assigned_when_an_object_is_made(self):
        for function in self.functions():
            for node in ast.walk(function):
                if isinstance(node, ast.Attribute) and isinstance(node.ctx, ast.Store):
                    self.assertEqual((function.name, node.value.id), ("__init__", "self"))

    def test_no_assignment_in_place_and_no_sort_in_place(self):
        for path, tree in parsed().items():
            for node in ast.walk(tree):
                self.assertNotIsInstance(node, ast.AugAssign, path)
                self.assertNotEqual(getattr(node, "attr", ""), "sort", path)

    def test_no_passed_function_is_called(self):
        for function in self.functions():
            parameters = {arg.arg for arg in function.args.args}
            for node in ast.walk(function):
                if isinstance(node, ast.Call) and isinstance(node.func, ast.Name):
                    self.assertNotIn(node.func.id, parameters, function.name)
