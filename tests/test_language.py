"""Those rules of the language, L1 to L28, that can be seen file by file without reading for meaning."""

import ast
import pathlib
import re
import unittest
import warnings

PACKAGE = pathlib.Path(__file__).resolve().parent.parent / "coinlaw"

BUILTINS = set(
    "len range enumerate zip min max sum abs sorted reversed int str bool list tuple dict set isinstance ord repr any "
    "all divmod Exception ValueError TypeError KeyError IndexError LookupError ZeroDivisionError ArithmeticError "
    "OverflowError RuntimeError NotImplementedError StopIteration NotImplemented super".split())
METHODS = set(
    "append clear copy count endswith extend find get index insert isalnum isalpha isdigit islower isspace isupper "
    "items join keys ljust lower lstrip partition pop remove replace reverse rfind rjust rpartition rsplit rstrip "
    "setdefault split splitlines startswith strip update upper values zfill bit_length add discard sort "
    "removeprefix removesuffix isascii isdecimal".split())
BARRED_WORDS = set(
    "type typing typing_extensions enum Enum IntEnum StrEnum Flag IntFlag Generic Protocol ABC ABCMeta namedtuple "
    "NamedTuple TypedDict TYPE_CHECKING abstractmethod".split())
BARRED_PARTS = ("dataclass", "overload", "contextmanager")
BARRED_NAMES = set(
    "register mro elements open input version_info with_traceback add_note attrgetter breakpoint builtins compile "
    "copyright credits delattr dir eval exec exit gc getattr globals hasattr help id importlib license locals "
    "methodcaller os quit setattr type vars sys".split())
DOUBLE = set(
    "__init__ __eq__ __ne__ __repr__ __str__ __len__ __enter__ __exit__ __call__ __bool__ __lt__ __contains__".split())
SHUT_OUT = (
    ast.Global, ast.AsyncFunctionDef, ast.AsyncFor, ast.AsyncWith, ast.Await, ast.Import, ast.Div, ast.MatMult,
)
AT_ONCE = ("zip", "enumerate", "reversed", "range", "items", "keys", "values")
ITERATING = ("list", "tuple", "dict", "sorted", "sum", "any", "all", "enumerate", "zip", "min", "max")
AT_TOP = (ast.Expr, ast.ImportFrom, ast.FunctionDef, ast.ClassDef, ast.Assign)


def files():
    return sorted(PACKAGE.glob("*.py"))


def trees():
    return [(path.name, ast.parse(path.read_text())) for path in files()]


def bound_names(tree):
    """Each name that a file gives a meaning to, wherever."""
    for node in ast.walk(tree):
        if isinstance(node, ast.Name) and not isinstance(node.ctx, ast.Load):
            yield node.id
        elif isinstance(node, (ast.FunctionDef, ast.ClassDef)):
            yield node.name
        elif isinstance(node, ast.arg):
            yield node.arg
        elif isinstance(node, ast.alias):
            yield node.asname or node.name
        elif isinstance(node, ast.ExceptHandler) and node.name:
            yield node.name


def top_names(tree):
    for node in tree.body:
        if isinstance(node, (ast.FunctionDef, ast.ClassDef)):
            yield node.name
        elif isinstance(node, ast.Assign):
            yield node.targets[0].id


def imports(tree):
    return [node for node in ast.walk(tree) if isinstance(node, ast.ImportFrom)]


def classes():
    return [node for _, tree in trees() for node in ast.walk(tree) if isinstance(node, ast.ClassDef)]


def own_methods():
    return {part.name for node in classes() for part in node.body if isinstance(part, ast.FunctionDef)}


def attributes(stored):
    """(where, name) of each attribute that is assigned, or of each that is read."""
    for name, tree in trees():
        for node in ast.walk(tree):
            if isinstance(node, ast.Attribute) and isinstance(node.ctx, ast.Store) == stored:
                yield f"{name}:{node.lineno}", node.attr


class Language(unittest.TestCase):
    def test_files(self):
        for path in PACKAGE.iterdir():
            if path.name == "__pycache__":
                continue
            self.assertRegex(path.name, r"^([a-z][a-z0-9_]*|__init__|__main__)\.py$")
            self.assertNotIn(path.stem, BUILTINS | BARRED_WORDS | BARRED_NAMES)

    def test_signs_lines_and_words(self):
        for path in files():
            text = path.read_bytes().decode("ascii")
            with self.subTest(path.name):
                self.assertTrue(all(sign == "\n" or " " <= sign <= "~" for sign in text))
                self.assertLessEqual(text.count("\n"), 400)
                self.assertLessEqual(max(map(len, text.split("\n"))), 120)
                self.assertFalse(BARRED_WORDS & set(re.findall(r"\w+", text)))
                self.assertFalse([part for part in BARRED_PARTS if part in text])
                with warnings.catch_warnings():
                    warnings.simplefilter("error")
                    compile(text, path.name, "exec")

    def test_module_level(self):
        for name, tree in trees():
            for node in tree.body:
                with self.subTest(f"{name}:{node.lineno}"):
                    self.assertIsInstance(node, AT_TOP)
                    if isinstance(node, ast.Expr):
                        self.assertIsInstance(node.value, ast.Constant)
                    if isinstance(node, ast.Assign):
                        self.assertEqual(len(node.targets), 1)
                        self.assertIsInstance(node.targets[0], ast.Name)
                        for part in ast.walk(node.value):
                            self.assertNotIsInstance(part, (ast.Call, ast.Set, ast.ListComp, ast.Lambda))

    def test_one_binding_at_the_top(self):
        for name, tree in trees():
            bound = list(top_names(tree))
            bound += [part.asname or part.name for node in imports(tree) for part in node.names]
            self.assertEqual(len(bound), len(set(bound)), name)
            for function in ast.walk(tree):
                if isinstance(function, ast.FunctionDef):
                    inner = {part.arg for part in ast.walk(function) if isinstance(part, ast.arg)}
                    inner |= {part.id for part in ast.walk(function)
                              if isinstance(part, ast.Name) and isinstance(part.ctx, ast.Store)}
                    self.assertFalse(inner & set(bound), f"{name}:{function.name}")

    def test_imports_name_the_file_that_defines(self):
        defined = {name[:-3]: set(top_names(tree)) for name, tree in trees()}
        for name, tree in trees():
            for node in imports(tree):
                self.assertEqual(node.level, 0)
                if node.module != "__future__":
                    package, _, module = node.module.partition(".")
                    self.assertEqual(package, "coinlaw", name)
                    for part in node.names:
                        self.assertIn(part.name, defined[module], name)

    def test_no_ring_of_imports(self):
        ahead = {name[:-3]: {node.module.partition(".")[2] for node in imports(tree)} for name, tree in trees()}
        while ahead:
            free = [name for name, others in ahead.items() if not others & set(ahead)]
            self.assertTrue(free, f"a ring among {sorted(ahead)}")
            for name in free:
                del ahead[name]

    def test_functions_are_small_and_plain(self):
        for name, tree in trees():
            for node in ast.walk(tree):
                if isinstance(node, ast.FunctionDef):
                    with self.subTest(f"{name}:{node.name}"):
                        self.assertLessEqual(node.end_lineno - node.lineno + 1, 40)
                        self.assertFalse(node.args.posonlyargs)

    def test_names(self):
        for name, tree in trees():
            for bound in bound_names(tree):
                with self.subTest(f"{name}:{bound}"):
                    self.assertTrue(bound in DOUBLE or re.fullmatch(r"[A-Za-z][A-Za-z0-9_]*", bound))
                    self.assertNotIn(bound, BUILTINS | BARRED_NAMES)

    def test_no_name_from_elsewhere(self):
        for name, tree in trees():
            known = set(bound_names(tree)) | BUILTINS
            for node in ast.walk(tree):
                if isinstance(node, ast.Name):
                    self.assertIn(node.id, known, f"{name}:{node.lineno}")

    def test_methods(self):
        known = METHODS | own_methods()
        for name, tree in trees():
            for node in ast.walk(tree):
                if isinstance(node, ast.Call) and isinstance(node.func, ast.Attribute):
                    self.assertIn(node.func.attr, known, f"{name}:{node.lineno}")

    def test_attributes(self):
        methods = own_methods()
        assigned = {name for _, name in attributes(True)}
        self.assertFalse(assigned & methods)
        self.assertFalse(assigned & (METHODS | BUILTINS | BARRED_NAMES))
        for where, name in attributes(False):
            self.assertIn(name, assigned | methods | METHODS, where)

    def test_methods_stand_once_and_by_plain_names(self):
        for node in classes():
            names = [part.name for part in node.body if isinstance(part, ast.FunctionDef)]
            self.assertEqual(len(names), len(set(names)), node.name)
            for name in names:
                self.assertTrue(name in DOUBLE or not name.startswith("_"), name)
                # operators would bring more rules of L5 with them
                self.assertNotIn(name, ("__ne__", "__lt__", "__contains__", "__bool__"))

    def test_double_underscore_methods_change_nothing(self):
        for node in classes():
            for part in node.body:
                if isinstance(part, ast.FunctionDef) and part.name in ("__eq__", "__repr__", "__len__"):
                    self.assertIsInstance(part.body[-1], ast.Return)
                    for inner in ast.walk(part):
                        self.assertNotIsInstance(inner, (ast.Assign, ast.AugAssign, ast.Delete))

    def test_calls_of_methods_with_a_builtin_methods_name_have_no_keywords(self):
        for name, tree in trees():
            for node in ast.walk(tree):
                if isinstance(node, ast.Call) and isinstance(node.func, ast.Attribute) and node.func.attr in METHODS:
                    self.assertFalse(node.keywords, f"{name}:{node.lineno}")
                    # a class has __eq__ and __len__ (L25)
                    self.assertNotEqual(node.func.attr, "sort", f"{name}:{node.lineno}")

    def test_signs_that_are_shut_out(self):
        for name, tree in trees():
            for node in ast.walk(tree):
                where = f"{name}:{getattr(node, 'lineno', '')}"
                self.assertNotIsInstance(node, SHUT_OUT, where)
                if isinstance(node, ast.Constant):
                    self.assertNotIsInstance(node.value, (float, complex), where)
                    self.assertFalse(isinstance(node.value, str) and "%" in node.value, where)
                if isinstance(node, ast.Compare):
                    for sign, right in zip(node.ops, node.comparators):
                        if isinstance(sign, (ast.Is, ast.IsNot)):
                            self.assertIsInstance(right, ast.Constant, where)
                            self.assertIn(right.value, (None, True, False), where)

    def test_errors_are_raised_on_the_spot(self):
        for name, tree in trees():
            for node in ast.walk(tree):
                if isinstance(node, ast.Raise) and node.exc is not None:
                    self.assertIsInstance(node.exc, ast.Call, f"{name}:{node.lineno}")
                    self.assertIsInstance(node.exc.func, ast.Name, f"{name}:{node.lineno}")

    def test_what_is_iterated_at_once(self):
        for name, tree in trees():
            allowed = set()
            for node in ast.walk(tree):
                if isinstance(node, (ast.For, ast.comprehension)):
                    allowed.add(node.iter)
                elif isinstance(node, ast.Call) and isinstance(node.func, ast.Name) and node.func.id in ITERATING:
                    allowed |= set(node.args[:1])
            for node in ast.walk(tree):
                if isinstance(node, ast.Call):
                    called = node.func.id if isinstance(node.func, ast.Name) else getattr(node.func, "attr", None)
                    if called in AT_ONCE:
                        self.assertIn(node, allowed, f"{name}:{node.lineno}")

    def test_generators_stand_in_no_any_all_min_max_sum_sorted(self):
        # The classes that later points ask for have __eq__, and then these take a list (L7).
        for name, tree in trees():
            for node in ast.walk(tree):
                if isinstance(node, ast.Call) and isinstance(node.func, ast.Name):
                    if node.func.id in ("any", "all", "min", "max", "sum", "sorted"):
                        for part in node.args:
                            self.assertNotIsInstance(part, ast.GeneratorExp, f"{name}:{node.lineno}")


if __name__ == "__main__":
    unittest.main()
