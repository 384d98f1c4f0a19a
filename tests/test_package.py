"""The interface that the document lists, and what can be checked of the rules of the language."""

import ast
import builtins
import importlib
import inspect
import pathlib
import re
import unittest

PACKAGE = pathlib.Path(__file__).resolve().parent.parent / "readhome"

INTERFACE = {
    "errors": {
        "BookError": None, "BadValue": ["at"], "BadPattern": ["at"], "NoMessage": ["name"],
        "NoTongue": ["name"], "NotSaid": ["text"], "Twofold": ["first", "second"],
        "Shared": ["name", "text"],
    },
    "books": {"is_book": ["value"], "fault": ["value"], "is_lawful": ["value"]},
    "saying": {
        "is_value": ["book", "name", "value"], "class_of": ["book", "tongue", "number"],
        "form_of": ["book", "name", "tongue"], "say": ["book", "name", "tongue", "values"],
    },
    "ways": {
        "ways": ["book", "name", "tongue"], "way_of": ["book", "name", "tongue", "values"],
    },
    "reading": {
        "readings": ["book", "name", "tongue", "text", "limit"],
        "read": ["book", "name", "tongue", "text"],
    },
    "clashes": {"is_readable": ["book", "name", "tongue"], "clash": ["book", "name", "tongue"]},
    "crossing": {
        "carried": ["book", "name", "source", "target", "text"],
        "shared": ["book", "one", "other", "tongue"], "are_apart": ["book", "names", "tongue"],
        "which": ["book", "tongue", "text"],
    },
    "marking": {
        "gaps": ["book", "name", "tongue"], "marked": ["book", "name", "tongue", "chosen"],
        "marks": ["book", "name", "tongue"], "reasons": ["book", "name", "tongue"],
        "reasons_hold": ["book", "name", "tongue", "count", "value"],
    },
    "readers": {"Reader": ["book", "tongue"]},
    "texts": {"printed_pattern": ["pattern"], "parse_pattern": ["text"]},
}

# The methods that the interface lists for a class, each defined in the class itself.
CLASSES = {
    ("readers", "Reader"): {
        "put": ["name"], "take": ["name"], "names": [], "__contains__": None, "__len__": [],
        "read": ["text"], "carried": ["text", "target"],
    },
}

LIBRARY = {
    "heapq": {"heappush", "heappop", "heapify", "heapreplace", "heappushpop"},
    "math": {"gcd", "lcm", "isqrt", "comb", "perm", "factorial"},
    "itertools": {"product", "combinations", "permutations", "chain", "accumulate", "pairwise",
                  "islice", "zip_longest"},
    "collections": {"defaultdict", "deque"},
}

BUILTINS = set(
    "len range enumerate zip min max sum abs sorted reversed int str bool bytes list tuple dict set "
    "frozenset isinstance ord repr any all divmod pow getattr hasattr setattr iter next map super "
    "property staticmethod classmethod type Exception ValueError TypeError KeyError IndexError "
    "LookupError ZeroDivisionError ArithmeticError OverflowError RuntimeError NotImplementedError "
    "AttributeError StopIteration NotImplemented".split())

# The methods of builtin values that the package calls so far, all of them allowed.
METHODS = set("append endswith extend find get index items join pop replace setdefault startswith "
              "values bit_length add".split())

BARRED_NAMES = set(
    "mro elements open input law version_info register attrgetter breakpoint builtins compile copyright "
    "credits delattr dir eval exec exit gc getattr globals hasattr help id importlib license locals "
    "methodcaller os quit setattr super type vars sys".split())

BARRED_WORDS = set(
    "type typing enum Enum IntEnum StrEnum Flag IntFlag Generic Protocol ABC ABCMeta namedtuple NamedTuple "
    "TypedDict abstractmethod dataclass overload contextmanager _wall _WallAttr".split())

BARRED = (
    ast.Global, ast.AsyncFunctionDef, ast.AsyncFor, ast.AsyncWith, ast.Await, ast.Div, ast.MatMult,
    ast.Try, ast.Import)


def trees():
    for path in sorted(PACKAGE.glob("*.py")):
        yield path.name, ast.parse(path.read_text(encoding="utf-8"))


def docstrings(tree):
    """The nodes that are docstrings."""
    found = []
    for node in ast.walk(tree):
        if isinstance(node, (ast.Module, ast.ClassDef, ast.FunctionDef)):
            first = node.body[0] if node.body else None
            if isinstance(first, ast.Expr) and isinstance(first.value, ast.Constant):
                found.append(first.value)
    return found


class TestInterface(unittest.TestCase):
    def test_names_and_arguments(self):
        for module, things in INTERFACE.items():
            held = importlib.import_module(f"readhome.{module}")
            for name, arguments in things.items():
                thing = getattr(held, name)
                self.assertEqual(thing.__module__, f"readhome.{module}")
                if arguments is not None:
                    self.assertEqual(list(inspect.signature(thing).parameters), arguments, name)


    def test_methods_of_classes(self):
        for (module, name), methods in CLASSES.items():
            held = getattr(importlib.import_module(f"readhome.{module}"), name)
            for method, arguments in methods.items():
                self.assertIn(method, vars(held))
                if arguments is not None:
                    self.assertEqual(
                        list(inspect.signature(vars(held)[method]).parameters), ["self", *arguments])

    def test_functions_are_defined_where_they_are_listed(self):
        for name, tree in trees():
            listed = INTERFACE.get(name[:-3], {})
            defined = [node.name for node in tree.body if isinstance(node, (ast.FunctionDef, ast.ClassDef))]
            self.assertLessEqual(set(listed), set(defined), name)


class TestLanguage(unittest.TestCase):
    def test_files(self):
        for path in PACKAGE.iterdir():
            if path.name == "__pycache__":
                continue
            self.assertEqual(path.suffix, ".py")
            text = path.read_text(encoding="utf-8")
            self.assertTrue(all(sign == "\n" or " " <= sign <= "~" for sign in text), path.name)
            lines = text.split("\n")
            self.assertLessEqual(len(lines), 399, path.name)
            self.assertLessEqual(max(map(len, lines)), 120, path.name)

    def test_length_of_functions(self):
        for name, tree in trees():
            for node in ast.walk(tree):
                if isinstance(node, ast.FunctionDef):
                    self.assertLessEqual(node.end_lineno - node.lineno + 1, 40, (name, node.name))

    def test_module_level(self):
        for name, tree in trees():
            for node in tree.body:
                if isinstance(node, ast.Expr):
                    self.assertIsInstance(node.value, ast.Constant, name)
                else:
                    self.assertIsInstance(
                        node, (ast.ImportFrom, ast.FunctionDef, ast.ClassDef, ast.Assign), name)

    def test_imports(self):
        found = {}
        for name, tree in trees():
            module = "readhome." + name[:-3]
            found[module] = []
            for node in ast.walk(tree):
                self.assertNotIsInstance(node, BARRED, name)
                if not isinstance(node, ast.ImportFrom):
                    continue
                self.assertIn(node, tree.body, name)
                for alias in node.names:
                    self.assertIsNone(alias.asname, name)
                    if node.module in LIBRARY:
                        self.assertIn(alias.name, LIBRARY[node.module], name)
                    else:
                        found[module].append(node.module)
                        thing = getattr(importlib.import_module(node.module), alias.name)
                        if hasattr(thing, "__module__"):
                            self.assertEqual(thing.__module__, node.module, name)
        # No module reaches itself through what it imports.
        for module in found:
            reached, open_ones = [], list(found[module])
            while open_ones:
                other = open_ones.pop()
                self.assertIn(other, found, module)
                if other not in reached:
                    reached.append(other)
                    open_ones.extend(found[other])
            self.assertNotIn(module, reached)

    def test_builtins(self):
        for name, tree in trees():
            for node in ast.walk(tree):
                if isinstance(node, ast.Name) and hasattr(builtins, node.id):
                    self.assertIn(node.id, BUILTINS, name)
                    self.assertIsInstance(node.ctx, ast.Load, (name, node.id))
                if isinstance(node, ast.arg):
                    self.assertFalse(hasattr(builtins, node.arg), (name, node.arg))

    def test_methods(self):
        own = {node.name for _, tree in trees() for node in ast.walk(tree)
               if isinstance(node, ast.FunctionDef)}
        for name, tree in trees():
            for node in ast.walk(tree):
                if isinstance(node, ast.Call) and isinstance(node.func, ast.Attribute):
                    self.assertIn(node.func.attr, METHODS | own, name)

    def test_names(self):
        # No parameter or local variable has the name of what its file defines or imports.
        for name, tree in trees():
            bound = [alias.name for node in tree.body if isinstance(node, ast.ImportFrom) for alias in node.names]
            for node in tree.body:
                if isinstance(node, (ast.FunctionDef, ast.ClassDef)):
                    bound.append(node.name)
                elif isinstance(node, ast.Assign):
                    bound.append(node.targets[0].id)
            self.assertEqual(len(set(bound)), len(bound), name)
            for function in ast.walk(tree):
                if isinstance(function, (ast.FunctionDef, ast.Lambda)):
                    held = {node.id for node in ast.walk(function)
                            if isinstance(node, ast.Name) and not isinstance(node.ctx, ast.Load)}
                    held |= {node.arg for node in ast.walk(function) if isinstance(node, ast.arg)}
                    self.assertFalse(held & (set(bound) | BARRED_NAMES), name)

    def test_classes(self):
        methods = set().union(*(dir(kind) for kind in (str, int, list, tuple, dict, set, bytes)))
        for name, tree in trees():
            for node in ast.walk(tree):
                if isinstance(node, ast.ClassDef):
                    its = {inner.name for inner in node.body if isinstance(inner, ast.FunctionDef)}
                    held = {inner.attr for inner in ast.walk(node) if isinstance(inner, ast.Attribute)
                            and not isinstance(inner.ctx, ast.Load)}
                    self.assertFalse(its & held, (name, node.name))
                    self.assertLessEqual(its & methods, {"__init__", "__contains__", "__len__"})
                    self.assertFalse(held & methods, (name, node.name))

    def test_identity(self):
        for name, tree in trees():
            for node in ast.walk(tree):
                if isinstance(node, ast.Compare):
                    for sign, other in zip(node.ops, node.comparators):
                        if isinstance(sign, (ast.Is, ast.IsNot)):
                            self.assertIsInstance(other, ast.Constant, (name, node.lineno))

    def test_words(self):
        for path in PACKAGE.glob("*.py"):
            held = set(re.findall(r"\w+", path.read_text(encoding="utf-8")))
            self.assertFalse(held & BARRED_WORDS, path.name)

    def test_sets(self):
        # A set is made where it is sorted or counted, or once for a name of its own.
        for name, tree in trees():
            allowed = set()
            for node in ast.walk(tree):
                if isinstance(node, ast.Call) and isinstance(node.func, ast.Name):
                    if node.func.id in ("sorted", "len"):
                        allowed.update(map(id, node.args))
                if isinstance(node, ast.Assign) and isinstance(node.targets[0], ast.Name):
                    allowed.add(id(node.value))
            for node in ast.walk(tree):
                made = isinstance(node, (ast.Set, ast.SetComp)) or (
                    isinstance(node, ast.Call) and isinstance(node.func, ast.Name) and node.func.id == "set")
                self.assertTrue(not made or id(node) in allowed, (name, getattr(node, "lineno", 0)))

    def test_numbers_and_strings(self):
        for name, tree in trees():
            skipped = docstrings(tree)
            for node in ast.walk(tree):
                if isinstance(node, ast.Constant) and node not in skipped:
                    self.assertNotIsInstance(node.value, (float, complex), name)
                    if isinstance(node.value, str):
                        self.assertNotIn(chr(37), node.value, name)


if __name__ == "__main__":
    unittest.main()
