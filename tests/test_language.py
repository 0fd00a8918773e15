"""What can be told at a glance of the rules of the language, file by file."""

import ast
import builtins
import os
import re
import unittest

import minusone

FOLDER = os.path.dirname(minusone.__file__)

INTERFACE = {
    "errors.py": ["NoSeat", "NoLeg", "NoVoice", "NoEar", "BadText", "BadLine"],
    "data.py": ["is_world", "legs", "follows", "is_way"],
    "ways.py": ["times", "way", "reached", "hearers", "echo", "is_echo"],
    "rings.py": ["has_ring", "least_ring", "spare_joins"],
    "loud.py": ["weights", "is_calm", "howl", "is_howl", "loud"],
    "cuts.py": ["fewest_shut", "apart", "is_apart", "overheard", "guard"],
    "mutes.py": ["fewest_mutes", "fewest_calm", "order_for", "first_trouble"],
    "texts.py": ["world_text", "world_in", "leg_text", "leg_in", "way_text", "gain_text"],
    "desk.py": ["answers"],
}

BUILTINS = """len range enumerate zip min max sum abs sorted reversed int str bool list tuple dict set frozenset
isinstance ord repr any all divmod Exception ValueError TypeError KeyError IndexError LookupError
ZeroDivisionError ArithmeticError OverflowError RuntimeError NotImplementedError AttributeError StopIteration
NotImplemented bytes pow getattr hasattr setattr iter next map object super property staticmethod
classmethod""".split()

METHODS = """append clear copy count endswith extend find get index insert isalnum isalpha isdigit islower isspace
isupper items join keys ljust lower lstrip partition pop remove replace reverse rfind rjust rpartition rsplit rstrip
setdefault split splitlines startswith strip update upper values zfill bit_length add discard sort title capitalize
swapcase casefold center expandtabs removeprefix removesuffix rindex isascii isdecimal isnumeric istitle isidentifier
isprintable translate maketrans format encode decode hex from_bytes from_iterable""".split()

# Not as names; in strings and comments they may stand.
BARRED_NAMES = """register mro elements open input law version_info with_traceback add_note""".split()

# Not at all.
BARRED_WORDS = """type typing enum Enum IntEnum StrEnum Flag IntFlag Generic Protocol ABC ABCMeta namedtuple NamedTuple
TypedDict TYPE_CHECKING abstractmethod dataclass overload contextmanager _wall _WallAttr""".split()

BARRED_NODES = (ast.Global, ast.AsyncFunctionDef, ast.AsyncFor, ast.AsyncWith, ast.Await, ast.Import, ast.Div)


def sources():
    found = []
    for folder, _, names in os.walk(FOLDER):
        for name in sorted(names):
            if not folder.endswith("__pycache__"):
                path = os.path.join(folder, name)
                with open(path, encoding="utf-8", newline="") as file:
                    found.append((os.path.relpath(path, FOLDER), file.read()))
    return found


def bound_names(tree):
    """All names that a file gives a meaning to, attributes and methods left out."""
    found = []
    for node in ast.walk(tree):
        if isinstance(node, ast.Name) and not isinstance(node.ctx, ast.Load):
            found.append(node.id)
        elif isinstance(node, ast.arg):
            found.append(node.arg)
        elif isinstance(node, (ast.FunctionDef, ast.ClassDef)):
            found.append(node.name)
        elif isinstance(node, ast.alias):
            found.append(node.asname or node.name)
    return found


class Language(unittest.TestCase):
    def trees(self):
        return [(name, ast.parse(text)) for name, text in sources()]

    def test_files(self):
        for name, text in sources():
            self.assertRegex(name, r"\A[a-z_0-9]+\.py\Z")
            self.assertRegex(text, r"\A[ -~\n]*\Z", name)
            self.assertLessEqual(text.count("\n"), 399, name)
            self.assertLessEqual(max(map(len, text.split("\n"))), 120, name)

    def test_interface_stands_in_its_files(self):
        for name, tree in self.trees():
            defined = [node.name for node in tree.body if isinstance(node, (ast.FunctionDef, ast.ClassDef))]
            for wanted in INTERFACE.get(name, []):
                self.assertIn(wanted, defined, name)
        self.assertEqual(set(INTERFACE) - {name for name, _ in sources()}, set())

    def test_functions_are_small_and_plain(self):
        for name, tree in self.trees():
            for node in ast.walk(tree):
                if isinstance(node, ast.FunctionDef):
                    self.assertLessEqual(node.end_lineno - node.lineno + 1, 40, (name, node.name))
                    self.assertEqual(node.decorator_list, [], (name, node.name))

    def test_module_level(self):
        allowed = (ast.FunctionDef, ast.ClassDef, ast.ImportFrom, ast.Assign, ast.Expr)
        for name, tree in self.trees():
            for node in tree.body:
                self.assertIsInstance(node, allowed, name)
                if isinstance(node, ast.Expr):
                    self.assertIs(node, tree.body[0], name)

    def test_imports(self):
        for name, tree in self.trees():
            for node in ast.walk(tree):
                if isinstance(node, ast.ImportFrom):
                    self.assertEqual(node.level, 0, name)
                    self.assertRegex(node.module, r"\A(minusone\.[a-z]+|heapq|math|itertools|collections)\Z", name)
                    self.assertNotIn("*", [part.name for part in node.names], name)

    def test_builtins_and_methods(self):
        trees = self.trees()
        own = [node.name for _, tree in trees for node in ast.walk(tree) if isinstance(node, ast.FunctionDef)]
        for name, tree in trees:
            bound = bound_names(tree)
            self.assertEqual([word for word in bound if word != "_" and word in vars(builtins)], [], name)
            for node in ast.walk(tree):
                if isinstance(node, ast.Name) and node.id not in bound:
                    self.assertIn(node.id, BUILTINS, name)
                if isinstance(node, ast.Call) and isinstance(node.func, ast.Attribute):
                    self.assertIn(node.func.attr, METHODS + own, name)

    def test_what_is_barred(self):
        for name, tree in self.trees():
            for node in ast.walk(tree):
                self.assertNotIsInstance(node, BARRED_NODES, name)
                if isinstance(node, ast.Constant):
                    self.assertNotIsInstance(node.value, (float, complex), name)
                    self.assertNotIn("%", str(node.value), name)

    def test_names_that_are_barred(self):
        for name, tree in self.trees():
            found = bound_names(tree)
            for node in ast.walk(tree):
                found.extend([node.attr] if isinstance(node, ast.Attribute) else [])
                found.extend([node.id] if isinstance(node, ast.Name) else [])
                found.extend([node.arg] if isinstance(node, ast.keyword) else [])
            self.assertEqual([word for word in found if word in BARRED_NAMES], [], name)

    def test_local_names_are_not_those_of_imports_and_classes(self):
        for name, tree in self.trees():
            outer = [part.name for node in tree.body if isinstance(node, ast.ImportFrom) for part in node.names]
            outer.extend(node.name for node in tree.body if isinstance(node, ast.ClassDef))
            for node in tree.body:
                if isinstance(node, (ast.FunctionDef, ast.ClassDef)):
                    inner = [word for part in node.body for word in bound_names(part)]
                    inner.extend(part.arg for part in ast.walk(node) if isinstance(part, ast.arg))
                    self.assertEqual([word for word in inner if word in outer], [], (name, node.name))

    def test_no_files_import_one_another(self):
        needs = {name[:-3]: {node.module.split(".")[1] for node in tree.body if isinstance(node, ast.ImportFrom)
                             and node.module.startswith("minusone.")} for name, tree in self.trees()}
        while needs:
            free = [name for name in needs if not needs[name] & set(needs)]
            self.assertNotEqual(free, [], needs)
            for name in free:
                del needs[name]

    def test_no_name_twice_at_module_level(self):
        for name, tree in self.trees():
            found = []
            for node in tree.body:
                if isinstance(node, (ast.FunctionDef, ast.ClassDef)):
                    found.append(node.name)
                elif isinstance(node, ast.ImportFrom):
                    found.extend(part.name for part in node.names)
                elif isinstance(node, ast.Assign):
                    found.extend(target.id for target in node.targets)
            self.assertEqual(sorted(set(found)), sorted(found), name)

    def test_words_that_are_barred(self):
        for name, text in sources():
            words = re.findall(r"\w+", text)
            self.assertEqual([word for word in words if word in BARRED_WORDS], [], name)


if __name__ == "__main__":
    unittest.main()
