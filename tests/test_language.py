"""Rules of LANGUAGE.md that can be seen in the text of the package; the others are for the reader."""

import ast
import builtins
import io
import pathlib
import re
import tokenize
import unittest

PACKAGE = pathlib.Path(__file__).resolve().parent.parent / "evenloads"

ALLOWED_BUILTINS = """len range enumerate zip min max sum abs sorted reversed int str bool bytes list tuple dict set
    frozenset isinstance ord repr any all divmod pow getattr hasattr setattr iter next map type Exception ValueError
    TypeError KeyError IndexError LookupError ZeroDivisionError ArithmeticError OverflowError RuntimeError
    NotImplementedError AttributeError StopIteration NotImplemented property staticmethod classmethod super""".split()
ALLOWED_DOUBLES = """init eq repr str len enter exit call iter lt le gt ge ne add sub mul floordiv mod pow and or xor
    lshift rshift radd rsub rmul rfloordiv rmod rand ror rxor rlshift rrshift iadd isub imul ifloordiv imod ipow iand
    ior ixor ilshift irshift neg pos invert abs bool contains getitem setitem""".split()
LIBRARY = {
    "heapq": ["heappush", "heappop", "heapify", "heapreplace", "heappushpop"],
    "math": ["gcd", "lcm", "isqrt", "comb", "perm", "factorial"],
    "itertools": ["product", "combinations", "permutations", "chain", "accumulate", "pairwise", "islice",
                  "zip_longest"],
    "collections": ["defaultdict", "deque"],
}
BARRED_NAMES = """register mro elements open input law version_info with_traceback add_note attrgetter breakpoint
    builtins compile copyright credits delattr dir eval exec exit gc globals help id importlib license locals
    methodcaller os quit vars sys""".split()
BARRED_WORDS = """typing typing_extensions enum Enum IntEnum StrEnum Flag IntFlag Generic Protocol ABC ABCMeta
    namedtuple NamedTuple TypedDict TYPE_CHECKING abstractmethod""".split()
BARRED_NODES = (ast.AsyncFunctionDef, ast.AsyncFor, ast.AsyncWith, ast.Await, ast.Div, ast.MatMult, ast.Global)
# What is no operator that changes nothing: what makes an object, is called, or changes its object in place.
CHANGING_METHODS = ["__call__", "__setitem__", "__iadd__", "__isub__"]
CHANGING = ["append", "clear", "extend", "insert", "pop", "remove", "reverse", "setdefault", "update", "add", "discard"]
BUILTIN_METHODS = """append clear copy count endswith extend find get index insert isalnum isalpha isdigit islower
    isspace isupper items join keys ljust lower lstrip partition pop remove replace reverse rfind rjust rpartition
    rsplit rstrip setdefault split splitlines startswith strip update upper values zfill bit_length title capitalize
    swapcase casefold center expandtabs removeprefix removesuffix rindex isascii isdecimal isnumeric istitle
    isidentifier isprintable add discard""".split()


def trees():
    """Tuples (name, text, tree) of all files of the package."""
    found = []
    for path in sorted(PACKAGE.rglob("*.py")):
        text = path.read_text(encoding="utf-8")
        found.append((path.name, text, ast.parse(text)))
    return found


def nodes(*kinds):
    """Tuples (name, node) of all nodes of these kinds in the package."""
    return [(name, node) for name, _, tree in trees() for node in ast.walk(tree) if isinstance(node, kinds)]


def named_functions():
    """The dict from names to all functions with this name; constructors have the names of their classes."""
    found = {}
    for _, made in nodes(ast.ClassDef):
        for node in made.body:
            if isinstance(node, ast.FunctionDef) and node.name == "__init__":
                found[made.name] = [node]
    for _, node in nodes(ast.FunctionDef):
        if node.name != "__init__":
            found.setdefault(node.name, []).append(node)
    return found


def run_by_operators():
    """The dict of the functions that an operator or a property may run, itself included, by their names."""
    functions = named_functions()
    properties = [name for name, found in functions.items()
                  if "property" in [ast.unparse(decorator) for node in found for decorator in node.decorator_list]]
    queue = [name for name in functions if name.startswith("__") and name not in CHANGING_METHODS] + properties
    run = {}
    while queue:
        name = queue.pop()
        if name in run or name not in functions:
            continue
        run[name] = functions[name]
        for function in functions[name]:
            called = [ast.unparse(node.func).split(".")[-1] for node in ast.walk(function) if isinstance(node, ast.Call)]
            queue.extend(word for word in called if word not in BUILTIN_METHODS)
    return run


def is_created(value):
    """Whether a value is plainly a new list or dict: a literal, a comprehension, or a copy."""
    if isinstance(value, (ast.List, ast.Dict, ast.ListComp, ast.DictComp)):
        return True
    return isinstance(value, ast.Call) and isinstance(value.func, ast.Name) and value.func.id in ("list", "dict")


def docstrings(tree):
    """The nodes of all docstrings of a file."""
    holders = (ast.Module, ast.ClassDef, ast.FunctionDef)
    return [node.body[0].value for node in ast.walk(tree)
            if isinstance(node, holders) and ast.get_docstring(node, clean=False) is not None]


class LanguageTest(unittest.TestCase):

    def test_l1_l14_only_files_of_plain_names(self):
        for path in PACKAGE.rglob("*"):
            if "__pycache__" in path.parts:
                continue
            self.assertTrue(path.is_dir() or path.suffix == ".py", path)
            self.assertRegex(path.stem, r"\A[a-z0-9_]+\Z")

    def test_l2_l16_imports(self):
        for name, node in nodes(ast.Import, ast.ImportFrom):
            self.assertIsInstance(node, ast.ImportFrom, name)
            self.assertEqual(node.level, 0, name)
            for alias in node.names:
                if node.module in LIBRARY:
                    self.assertIn(alias.name, LIBRARY[node.module])
                    self.assertIsNone(alias.asname)
                else:
                    self.assertTrue(node.module.startswith("evenloads."), node.module)
                    file = PACKAGE / (node.module.split(".", 1)[1] + ".py")
                    defined = [one.name for one in ast.parse(file.read_text()).body
                               if isinstance(one, (ast.ClassDef, ast.FunctionDef))]
                    self.assertIn(alias.name, defined, name)

    def test_l3_module_level(self):
        for name, _, tree in trees():
            for node in tree.body:
                self.assertIsInstance(node, (ast.Expr, ast.ImportFrom, ast.ClassDef, ast.FunctionDef, ast.Assign), name)
                if isinstance(node, ast.Expr):
                    self.assertIn(node.value, docstrings(tree))

    def test_l4_l5_decorators(self):
        for name, node in nodes(ast.FunctionDef, ast.ClassDef):
            for decorator in node.decorator_list:
                self.assertRegex(ast.unparse(decorator), r"\A(property|staticmethod|classmethod|\w+\.setter)\Z", name)

    def test_l5_double_underscores(self):
        for name, node in nodes(ast.FunctionDef):
            if node.name.startswith("__"):
                self.assertIn(node.name, [f"__{word}__" for word in ALLOWED_DOUBLES], name)

    def test_l5_no_augmented_assignment_beside_operators(self):
        for name, node in nodes(ast.AugAssign):
            self.fail(f"{name}:{node.lineno}")

    def test_l5_only_plain_numbers_and_strings_are_compared_beside_an_order(self):
        for name, node in nodes(ast.Call):
            if isinstance(node.func, ast.Name) and node.func.id in ("sorted", "min", "max"):
                if node.func.id == "max" and ast.unparse(node.args[0]) == "0":
                    # Of two arguments one is plainly a number.
                    self.assertEqual((len(node.args), node.keywords), (2, []), (name, node.lineno))
                    continue
                self.assertIn([ast.unparse(word) for word in node.keywords], [[], ["reverse=True"]],
                              (name, node.lineno))
                self.assertEqual(len(node.args), 1, (name, node.lineno))
                self.assertIsInstance(node.args[0], ast.ListComp, (name, node.lineno))
                self.assertRegex(ast.unparse(node.args[0].elt), r"\A(str|int|len)\(", (name, node.lineno))

    def test_l5_no_kept_or_reversed_order_and_no_sorting_in_place(self):
        for name, node in nodes(ast.Call):
            self.assertNotIn(ast.unparse(node.func).split(".")[-1], ["reversed", "sort"], (name, node.lineno))

    def test_l5_what_has_items_is_not_iterated_over(self):
        found = []
        for name, made in nodes(ast.ClassDef):
            methods = {node.name: node for node in made.body if isinstance(node, ast.FunctionDef)}
            if "__getitem__" in methods:
                found.append(made.name)
                self.assertRegex(ast.unparse(methods["__iter__"].body[0]), r"\Araise TypeError\('", made.name)
        self.assertEqual(found, ["Board", "Assignment", "Plan"])

    def test_l5_operators_and_properties_change_only_what_they_created(self):
        run = run_by_operators()
        for word in ("__add__", "__or__", "__rshift__", "__eq__", "is_whole", "top", "Plan", "check_yard", "sum_of"):
            self.assertIn(word, run)
        for name, function in [(name, function) for name, found in run.items() for function in found]:
            inside, created = list(ast.walk(function)), {}
            for node in inside:
                for target in node.targets if isinstance(node, ast.Assign) else []:
                    if isinstance(target, ast.Name):
                        created.setdefault(target.id, []).append(is_created(node.value))
                    self.assertTrue(not isinstance(target, ast.Attribute) or function.name == "__init__",
                                    (name, node.lineno))
            changed = [node.value for node in inside
                       if isinstance(node, ast.Subscript) and isinstance(node.ctx, (ast.Store, ast.Del))]
            changed.extend(node.func.value for node in inside if isinstance(node, ast.Call)
                           and isinstance(node.func, ast.Attribute) and node.func.attr in CHANGING)
            for value in changed:
                base = value.value if isinstance(value, ast.Subscript) else value
                self.assertIsInstance(base, ast.Name, (name, value.lineno))
                self.assertTrue(created[base.id] and all(created[base.id]), (name, value.lineno))

    def test_l7_lists_instead_of_generator_expressions(self):
        for name, node in nodes(ast.GeneratorExp):
            self.fail(f"{name}:{node.lineno}")

    def test_l6_l7_l27_signs_and_values(self):
        for name, node in nodes(*BARRED_NODES):
            self.fail(f"{name}: {ast.dump(node)}")
        for name, _, tree in trees():
            told = docstrings(tree)
            for node in ast.walk(tree):
                if isinstance(node, ast.Constant) and node not in told:
                    self.assertNotIsInstance(node.value, (float, complex), name)
                    if isinstance(node.value, str):
                        self.assertNotIn("%", node.value, name)
                        self.assertFalse(node.value.startswith("__"), name)

    def test_l8_l15_builtins(self):
        for name, node in nodes(ast.Name):
            if hasattr(builtins, node.id):
                self.assertIsInstance(node.ctx, ast.Load, (name, node.id))
                self.assertIn(node.id, ALLOWED_BUILTINS, (name, node.lineno))
        for name, node in nodes(ast.arg):
            self.assertFalse(hasattr(builtins, node.arg), (name, node.arg))

    def test_l10_sizes(self):
        for name, text, tree in trees():
            rows = text.split("\n")
            self.assertLessEqual(len(rows), 400, name)
            for row in rows:
                self.assertLessEqual(len(row), 120, name)
            for node in ast.walk(tree):
                if isinstance(node, ast.FunctionDef):
                    self.assertLessEqual(node.end_lineno - node.lineno + 1, 40, (name, node.name))

    def test_l12_l17_names(self):
        for name, node in nodes(ast.Name, ast.arg, ast.FunctionDef, ast.ClassDef, ast.Attribute, ast.keyword):
            word = getattr(node, {"Name": "id", "Attribute": "attr", "FunctionDef": "name", "ClassDef": "name"}.get(
                node.__class__.__name__, "arg"))
            self.assertRegex(word, r"\A(_?[A-Za-z][A-Za-z0-9_]*|__\w+__|_)\Z", name)
            self.assertNotIn(word, BARRED_NAMES, name)
            self.assertIsNone(re.match(r"_(pe|dcw|enum|cm|twin_re|lay|law|stub|sre|wall|WallAttr)", word), name)

    def test_l12_what_is_called_underscore_is_never_read(self):
        for name, node in nodes(ast.Name):
            self.assertTrue(node.id != "_" or isinstance(node.ctx, ast.Store), (name, node.lineno))

    def test_l15_no_local_name_is_that_of_a_class_or_an_import(self):
        for name, _, tree in trees():
            taken = [node.name for node in tree.body if isinstance(node, (ast.ClassDef, ast.FunctionDef))]
            for node in tree.body:
                if isinstance(node, ast.ImportFrom):
                    taken.extend(alias.name for alias in node.names)
            self.assertEqual(len(taken), len(set(taken)), name)
            for node in ast.walk(tree):
                if isinstance(node, ast.arg):
                    self.assertNotIn(node.arg, taken, (name, node.lineno))
                if isinstance(node, ast.Name) and isinstance(node.ctx, ast.Store):
                    self.assertNotIn(node.id, taken, (name, node.lineno))

    def test_l14_characters(self):
        for name, text, _ in trees():
            self.assertRegex(text, r"\A[ -~\n]*\Z", name)

    def test_l17_words(self):
        for name, text, tree in trees():
            rows = [node.lineno for node in docstrings(tree)]
            for token in tokenize.generate_tokens(io.StringIO(text).readline):
                if token.type == tokenize.COMMENT or token.start[0] in rows:
                    continue
                for word in re.findall(r"\w+", token.string):
                    self.assertNotIn(word, BARRED_WORDS, name)
                    self.assertIsNone(re.search("dataclass|overload|contextmanager", word), name)

    def test_l17_words_beside_items(self):
        for name, text, _ in trees():
            for word in ("(type)", "Meta", "metaclass="):
                self.assertNotIn(word, text, name)
            for token in tokenize.generate_tokens(io.StringIO(text).readline):
                self.assertNotEqual(token.string, "type", name)

    def test_l18_no_name_is_an_attribute_and_a_method(self):
        methods, attributes = [], []
        for _, made in nodes(ast.ClassDef):
            methods.extend(node.name for node in made.body if isinstance(node, ast.FunctionDef))
        for _, node in nodes(ast.Attribute):
            if isinstance(node.ctx, ast.Store):
                attributes.append(node.attr)
        self.assertEqual(sorted(set(methods) & set(attributes)), [])

    def test_l19_handlers(self):
        for name, node in nodes(ast.ExceptHandler):
            self.assertIsNotNone(node.type, name)
            self.assertNotIn(ast.unparse(node.type), ["Exception", "TypeError", "ArithmeticError", "OverflowError",
                                                      "RuntimeError", "NotImplementedError", "AttributeError"], name)

    def test_l20_is(self):
        for name, node in nodes(ast.Compare):
            for sign, right in zip(node.ops, node.comparators):
                if isinstance(sign, (ast.Is, ast.IsNot)):
                    self.assertIn(ast.unparse(right), ["None", "True", "False"], name)

    def test_l23_generators_are_iterated_at_once(self):
        made = [node.name for _, node in nodes(ast.FunctionDef)
                if any(isinstance(inner, (ast.Yield, ast.YieldFrom)) for inner in ast.walk(node))]
        iterated = [ast.unparse(node.iter) for _, node in nodes(ast.For, ast.comprehension)]
        iterated.extend(ast.unparse(node.args[0]) for _, node in nodes(ast.Call)
                        if ast.unparse(node.func) in ("list", "tuple", "sum", "any", "all") and node.args)
        for name, node in nodes(ast.Call):
            if ast.unparse(node.func).split(".")[-1] in made:
                self.assertIn(ast.unparse(node), iterated, (name, node.lineno))

    def test_l25_methods(self):
        own = [node.name for _, node in nodes(ast.FunctionDef)]
        for name, node in nodes(ast.Call):
            if isinstance(node.func, ast.Attribute):
                self.assertIn(node.func.attr, own + BUILTIN_METHODS, (name, node.lineno))


if __name__ == "__main__":
    unittest.main()
