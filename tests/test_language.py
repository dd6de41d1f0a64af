"""What of ../shared/LANGUAGE.md can be checked without running the package.

The checks are a little stricter than the rules where that keeps them short
(no generator expressions, no lambdas over several lines and the like).
"""

import ast
import builtins
import os
import re
import unittest

ROOT = os.path.dirname(os.path.dirname(os.path.abspath(__file__)))
PACKAGE = os.path.join(ROOT, "leastimage")

LIBRARY = {
    "heapq": {"heappush", "heappop", "heapify", "heapreplace", "heappushpop"},
    "math": {"gcd", "lcm", "isqrt", "comb", "perm", "factorial"},
    "collections": {"defaultdict"},
}
BUILTINS = set(
    "len range enumerate zip min max sum abs sorted reversed int str bool list tuple dict set"
    " isinstance ord repr any all divmod super property staticmethod classmethod map iter next"
    " ValueError TypeError KeyError IndexError LookupError ZeroDivisionError StopIteration"
    " NotImplemented NotImplementedError Exception".split()
)
METHODS = set(
    "append clear copy count endswith extend find get index insert isalnum isalpha isdigit islower"
    " isspace isupper items join keys ljust lower lstrip partition pop remove replace reverse rfind"
    " rjust rpartition rsplit rstrip setdefault split splitlines startswith strip update upper values"
    " zfill bit_length title capitalize swapcase casefold center removeprefix removesuffix rindex"
    " isascii isdecimal add discard".split()
)
DOUBLE = set(
    "__init__ __eq__ __repr__ __str__ __len__ __call__ __iter__ __bool__ __contains__ __add__"
    " __lt__ __le__ __gt__ __ge__ __ne__ __enter__ __exit__ __getitem__ __setitem__".split()
)
DECORATORS = {"property", "staticmethod", "classmethod"}
NOWHERE = set("register mro elements open input law version_info with_traceback add_note".split())
NO_WORDS = set(
    "type typing typing_extensions enum Enum IntEnum StrEnum Flag IntFlag Generic Protocol ABC ABCMeta"
    " namedtuple NamedTuple TypedDict TYPE_CHECKING abstractmethod".split()
)
NO_NAMES = re.compile(
    r"_wall|_pe_|_dcw_|_enum_|_cm_|_twin_re_|_lay_|_law_|_stub_|_sre|_WallAttr"
    r"|(_cold|_tuplegetter|_outside|_record|_written_out|_member_names)[0-9_]*$"
)
NO_NODES = (
    ast.Global,
    ast.AsyncFunctionDef,
    ast.AsyncFor,
    ast.AsyncWith,
    ast.Await,
    ast.Import,
    ast.Div,
    ast.GeneratorExp,
    ast.MatMult,
)


def files():
    """The names of the files of the package with their texts."""
    for name in sorted(os.listdir(PACKAGE)):
        if name != "__pycache__":
            with open(os.path.join(PACKAGE, name), encoding="utf-8") as held:
                yield name, held.read()


def trees():
    for name, text in files():
        yield name, ast.parse(text)


def functions(tree):
    return [node for node in ast.walk(tree) if isinstance(node, ast.FunctionDef)]


def classes(tree):
    return [node for node in ast.walk(tree) if isinstance(node, ast.ClassDef)]


def methods(tree):
    return [part for node in classes(tree) for part in node.body if isinstance(part, ast.FunctionDef)]


def is_property(node):
    return "property" in [ast.unparse(found) for found in getattr(node, "decorator_list", [])]


def is_setter(node, name):
    return name + ".setter" in [ast.unparse(found) for found in getattr(node, "decorator_list", [])]


def parameters(node):
    args = node.args
    found = args.posonlyargs + args.args + args.kwonlyargs
    return [arg.arg for arg in found + [arg for arg in (args.vararg, args.kwarg) if arg]]


def bound_names(tree):
    """All names of variables, parameters, functions and classes."""
    for node in ast.walk(tree):
        if isinstance(node, ast.Name) and not isinstance(node.ctx, ast.Load):
            yield node.id
        elif isinstance(node, (ast.FunctionDef, ast.Lambda)):
            yield from parameters(node)
        if isinstance(node, (ast.FunctionDef, ast.ClassDef)):
            yield node.name
        elif isinstance(node, ast.ExceptHandler) and node.name:
            yield node.name


def top_names(tree):
    """The names that a file binds at module level, imports excluded."""
    for node in tree.body:
        if isinstance(node, (ast.FunctionDef, ast.ClassDef)):
            yield node.name
        elif isinstance(node, ast.Assign):
            yield node.targets[0].id


def imports(tree):
    return [node for node in ast.walk(tree) if isinstance(node, ast.ImportFrom)]


def docstrings(tree):
    kinds = (ast.Module, ast.FunctionDef, ast.ClassDef)
    for node in ast.walk(tree):
        if isinstance(node, kinds) and ast.get_docstring(node) is not None:
            yield node.body[0].value


class LanguageTest(unittest.TestCase):
    def test_files(self):
        names = [name for name, _ in files()]
        self.assertIn("__init__.py", names)
        for name in names:
            self.assertRegex(name, r"^[a-z][a-z0-9_]*\.py$|^__init__\.py$")

    def test_sizes(self):
        for name, text in files():
            lines = text.split("\n")
            self.assertLessEqual(len(lines), 400, name)
            self.assertLessEqual(max(len(line) for line in lines), 120, name)
            for node in functions(ast.parse(text)):
                self.assertLessEqual(node.end_lineno - node.lineno + 1, 40, (name, node.name))

    def test_characters(self):
        for name, text in files():
            self.assertIsNone(re.search(r"[^ -~\n]", text), name)
            self.assertTrue(text.endswith("\n"), name)

    def test_statements(self):
        for name, tree in trees():
            for node in ast.walk(tree):
                self.assertNotIsInstance(node, NO_NODES, (name, getattr(node, "lineno", 0)))

    def test_module_level(self):
        allowed = (ast.ImportFrom, ast.FunctionDef, ast.ClassDef, ast.Assign)
        for name, tree in trees():
            for at, node in enumerate(tree.body):
                is_text = at == 0 and isinstance(node, ast.Expr) and isinstance(node.value, ast.Constant)
                self.assertTrue(is_text or isinstance(node, allowed), (name, node.lineno))
            bound = list(top_names(tree)) + [own.name for node in imports(tree) for own in node.names]
            self.assertEqual(len(bound), len(set(bound)), name)

    def test_imports(self):
        own = {name[:-3]: tree for name, tree in trees()}
        for name, tree in own.items():
            for node in imports(tree):
                self.assertIn(node, tree.body, name)
                self.assertEqual(node.level, 0, name)
                words = node.module.split(".")
                named = {found.name for found in node.names}
                if words[0] == "leastimage":
                    self.assertEqual(len(words), 2, name)
                    self.assertLessEqual(named, set(top_names(own[words[1]])), name)
                else:
                    self.assertLessEqual(named, LIBRARY.get(node.module, set()), name)

    def test_imports_go_one_way(self):
        needs = {}
        for name, tree in trees():
            found = [node.module.split(".") for node in imports(tree)]
            needs[name[:-3]] = {words[1] for words in found if words[0] == "leastimage"}
        while needs:
            free = [name for name in needs if not needs[name]]
            self.assertTrue(free, f"files import each other: {sorted(needs)}")
            needs = {name: needs[name] - set(free) for name in needs if name not in free}

    def test_names(self):
        for name, tree in trees():
            taken = {own.name for node in imports(tree) for own in node.names}
            taken |= {node.name for node in tree.body if isinstance(node, ast.ClassDef)}
            for node in functions(tree):
                self.assertFalse(taken & set(parameters(node)), (name, node.name))
            for bound in bound_names(tree):
                self.assertNotIn(bound, NOWHERE, name)
                self.assertNotIn(bound, dir(builtins), name)
                self.assertIsNone(NO_NAMES.match(bound), (name, bound))
                self.assertTrue(not bound.startswith("__") or bound in DOUBLE, (name, bound))

    def test_locals_are_no_imports_and_no_classes(self):
        for name, tree in trees():
            taken = {own.name for node in imports(tree) for own in node.names}
            taken |= {node.name for node in tree.body if isinstance(node, ast.ClassDef)}
            for outer in functions(tree):
                for node in ast.walk(outer):
                    if isinstance(node, ast.Name) and isinstance(node.ctx, ast.Store):
                        self.assertNotIn(node.id, taken, (name, outer.name))

    def test_builtins(self):
        for name, tree in trees():
            bound = set(bound_names(tree)) | {own.name for node in imports(tree) for own in node.names}
            for node in ast.walk(tree):
                if isinstance(node, ast.Name) and isinstance(node.ctx, ast.Load) and node.id not in bound:
                    self.assertIn(node.id, BUILTINS, (name, node.lineno))

    def test_methods(self):
        own = {node.name for _, tree in trees() for node in functions(tree)}
        for name, tree in trees():
            for node in ast.walk(tree):
                if isinstance(node, ast.Call) and isinstance(node.func, ast.Attribute):
                    self.assertIn(node.func.attr, METHODS | own | {"__init__"}, (name, node.lineno))
                if isinstance(node, ast.Attribute):
                    self.assertNotIn(node.attr, NOWHERE | {"args", "format"}, (name, node.lineno))
                    self.assertIsNone(NO_NAMES.match(node.attr), (name, node.lineno))

    def test_attributes_are_no_methods(self):
        # A name that is both may not be called where an operator leads (L18).
        own = {node.name for _, tree in trees() for node in methods(tree) if not is_property(node)}
        for name, tree in trees():
            for node in ast.walk(tree):
                if isinstance(node, ast.Attribute) and isinstance(node.ctx, ast.Store):
                    self.assertFalse(node.attr in own, (name, node.lineno, node.attr))

    def test_properties_without_setters_are_not_assigned(self):
        # The rule goes by the name (L5): whichever class the object is of.
        bare = {}
        for _, tree in trees():
            for node in classes(tree):
                for told in [part.name for part in node.body if is_property(part)]:
                    if not any(is_setter(part, told) for part in node.body):
                        bare.setdefault(told, node.name)
        for name, tree in trees():
            for node in ast.walk(tree):
                if isinstance(node, ast.Attribute) and not isinstance(node.ctx, ast.Load):
                    self.assertNotIn(node.attr, bare, (name, node.lineno, bare.get(node.attr)))

    def test_properties_are_only_read(self):
        own = {node.name for _, tree in trees() for node in methods(tree) if is_property(node)}
        plain = {node.name for _, tree in trees() for node in methods(tree) if not is_property(node)}
        self.assertFalse(own & (plain | METHODS))
        for name, tree in trees():
            for node in ast.walk(tree):
                if isinstance(node, ast.Call) and isinstance(node.func, ast.Attribute):
                    self.assertNotIn(node.func.attr, own, (name, node.lineno))
                if isinstance(node, ast.Starred) and isinstance(node.value, ast.Attribute):
                    self.assertNotIn(node.value.attr, own, (name, node.lineno))

    def test_no_method_is_read_off_a_class_of_the_package(self):
        own = {node.name for _, tree in trees() for node in classes(tree)}
        for name, tree in trees():
            for node in ast.walk(tree):
                if isinstance(node, ast.Attribute) and isinstance(node.value, ast.Name):
                    self.assertNotIn(node.value.id, own, (name, node.lineno))

    def test_names_of_generators_are_their_own(self):
        kinds = {}
        for _, tree in trees():
            for node in functions(tree):
                is_generator = any(isinstance(part, (ast.Yield, ast.YieldFrom)) for part in ast.walk(node))
                kinds.setdefault(node.name, []).append(is_generator)
        for name, told in kinds.items():
            self.assertTrue(not any(told) or len(told) == 1, name)

    def test_lengths_and_texts_of_objects(self):
        allowed = {"__len__": r"len\(|\d", "__str__": r"f?['\"]|str\(|repr\(", "__repr__": r"f?['\"]|str\(|repr\("}
        for name, tree in trees():
            for node in functions(tree):
                if node.name in allowed:
                    for part in ast.walk(node):
                        if isinstance(part, ast.Return):
                            self.assertRegex(ast.unparse(part.value), "^(" + allowed[node.name] + ")", name)

    def test_decorators(self):
        for name, tree in trees():
            for node in ast.walk(tree):
                for decorator in getattr(node, "decorator_list", []):
                    text = ast.unparse(decorator)
                    self.assertTrue(text in DECORATORS or text.endswith(".setter"), (name, text))

    def test_class_bodies(self):
        for name, tree in trees():
            for node in ast.walk(tree):
                if isinstance(node, ast.ClassDef):
                    self.assertIn(node, tree.body, name)
                    self.assertFalse(node.decorator_list or node.keywords, name)
                    names = [part.name for part in node.body if isinstance(part, ast.FunctionDef)]
                    self.assertEqual(len(names), len(set(names)), (name, node.name))

    def test_strings_and_numbers(self):
        for name, tree in trees():
            for node in ast.walk(tree):
                if isinstance(node, ast.Constant):
                    self.assertNotIsInstance(node.value, (float, complex), name)
                    if isinstance(node.value, str):
                        self.assertNotIn("%", node.value, (name, node.lineno))
                        self.assertFalse(node.value.endswith(("._", ".__")), (name, node.lineno))

    def test_words_that_do_not_occur(self):
        for name, text in files():
            tree = ast.parse(text)
            docs = list(docstrings(tree))
            for node in ast.walk(tree):
                found = [getattr(node, part, None) for part in ("id", "attr", "arg", "name", "module")]
                if isinstance(node, ast.Constant) and node not in docs:
                    found.append(node.value)
                for value in found:
                    if isinstance(value, str):
                        words = set(re.findall(r"\w+", value))
                        self.assertFalse(words & NO_WORDS, (name, value))
            self.assertNotRegex(text, r"dataclass|overload|contextmanager|_wall\b|_WallAttr", name)

    def test_no_star_in_an_index(self):
        for name, tree in trees():
            for node in ast.walk(tree):
                if isinstance(node, ast.Subscript) and isinstance(node.slice, ast.Tuple):
                    for item in node.slice.elts:
                        self.assertNotIsInstance(item, ast.Starred, (name, node.lineno))

    def test_stars_in_calls_stand_before_plain_names(self):
        for name, tree in trees():
            for node in ast.walk(tree):
                if isinstance(node, ast.Call):
                    for item in node.args:
                        if isinstance(item, ast.Starred):
                            self.assertIsInstance(item.value, (ast.Name, ast.Attribute), (name, node.lineno))

    def test_is_only_with_none_true_and_false(self):
        for name, tree in trees():
            for node in ast.walk(tree):
                if isinstance(node, ast.Compare):
                    for sign, other in zip(node.ops, node.comparators):
                        if isinstance(sign, (ast.Is, ast.IsNot)):
                            found = isinstance(other, ast.Constant) and other.value in (None, True, False)
                            self.assertTrue(found, (name, node.lineno))

    def test_sets_stand_only_in_sorted_and_len(self):
        for name, tree in trees():
            allowed = []
            for node in ast.walk(tree):
                if isinstance(node, ast.Call) and isinstance(node.func, ast.Name) and node.func.id in ("sorted", "len"):
                    allowed += node.args
            for node in ast.walk(tree):
                is_call = isinstance(node, ast.Call) and isinstance(node.func, ast.Name) and node.func.id == "set"
                if is_call or isinstance(node, (ast.Set, ast.SetComp)):
                    self.assertIn(node, allowed, (name, node.lineno))

    def test_what_is_iterated_at_once_is_not_kept(self):
        for name, tree in trees():
            for node in ast.walk(tree):
                if isinstance(node, (ast.Assign, ast.Return)) and isinstance(node.value, ast.Call):
                    called = ast.unparse(node.value.func).split(".")[-1]
                    self.assertNotIn(called, ("range", "zip", "enumerate", "reversed", "items", "keys", "values"), (name, node.lineno))

    def test_attributes_that_are_read_are_assigned(self):
        own, read = {}, {}
        for name, tree in trees():
            for node in methods(tree):
                own[node.name] = True
            for node in ast.walk(tree):
                if isinstance(node, ast.Attribute) and isinstance(node.ctx, ast.Store):
                    own[node.attr] = True
                    self.assertIsInstance(node.value, ast.Name, (name, node.lineno))
                elif isinstance(node, ast.Attribute):
                    read[node.attr] = (name, node.lineno)
        for word, where in read.items():
            self.assertTrue(word in own or word in METHODS, (word, where))

    def test_raised_on_the_spot(self):
        for name, tree in trees():
            for node in ast.walk(tree):
                if isinstance(node, ast.Raise) and node.exc is not None:
                    self.assertIsInstance(node.exc, ast.Call, (name, node.lineno))
                    self.assertIsInstance(node.exc.func, ast.Name, (name, node.lineno))


if __name__ == "__main__":
    unittest.main()
