"""The rules of LANGUAGE.md that a look at the package's files can decide."""

import ast
import builtins
import io
import os
import re
import tokenize
import unittest

ROOT = os.path.dirname(os.path.dirname(os.path.abspath(__file__)))
PACKAGE = os.path.join(ROOT, "cutruns")

LIBRARY = {
    "heapq": "heappush heappop heapify heapreplace heappushpop",
    "math": "gcd lcm isqrt comb perm factorial",
    "itertools": "product combinations permutations chain accumulate pairwise islice zip_longest",
    "collections": "defaultdict",
}
BUILTINS = set(
    """len range enumerate zip min max sum abs sorted reversed int str bool bytes list tuple dict set frozenset isinstance
    ord repr any all divmod pow Exception ValueError TypeError KeyError IndexError LookupError ZeroDivisionError
    ArithmeticError OverflowError RuntimeError NotImplementedError AttributeError StopIteration NotImplemented object""".split()
)
METHODS = set(
    """append clear copy count endswith extend find get index insert isalnum isalpha isdigit islower isspace isupper items
    join keys ljust lower lstrip partition pop remove replace reverse rfind rjust rpartition rsplit rstrip setdefault split
    splitlines startswith strip update upper values zfill bit_length add discard""".split()
)
DOUBLE = set("__init__ __eq__ __repr__ __str__ __len__ __enter__ __exit__ __call__ __iter__ __contains__ __getitem__".split())
NODES = (
    ast.Module, ast.FunctionDef, ast.ClassDef, ast.Return, ast.Delete, ast.Assign, ast.AugAssign, ast.For, ast.While, ast.If,
    ast.With, ast.Raise, ast.Try, ast.Assert, ast.ImportFrom, ast.Expr, ast.Pass, ast.Break, ast.Continue, ast.BoolOp,
    ast.BinOp, ast.UnaryOp, ast.Lambda, ast.IfExp, ast.Dict, ast.Set, ast.ListComp, ast.SetComp, ast.DictComp, ast.Compare,
    ast.Call, ast.FormattedValue, ast.JoinedStr, ast.Constant, ast.Attribute, ast.Subscript, ast.Starred, ast.Name, ast.List,
    ast.Tuple, ast.Slice, ast.comprehension, ast.ExceptHandler, ast.arguments, ast.arg, ast.keyword, ast.alias, ast.withitem,
    ast.expr_context, ast.boolop, ast.operator, ast.unaryop, ast.cmpop,
)
NEVER = set("register mro elements open input law version_info with_traceback add_note".split())
NO_NAMES = set(
    """attrgetter breakpoint builtins compile copyright credits delattr dir eval exec exit gc globals help id importlib
    license locals methodcaller os quit super type vars sys map filter next iter hash round chr""".split()
)
NO_WORDS = set(
    """type typing typing_extensions enum Enum IntEnum StrEnum Flag IntFlag Generic Protocol ABC ABCMeta namedtuple
    NamedTuple TypedDict TYPE_CHECKING abstractmethod dataclass overload contextmanager""".split()
)
# doctest binds the name _ among the builtins.
TAKEN = (NEVER | NO_NAMES | set(dir(builtins))) - {"_"}
NO_FILES = set("test tests testing site conftest sitecustomize usercustomize heapq math itertools".split())


def files():
    """Each file of the package with its text and its tree."""
    for name in sorted(os.listdir(PACKAGE)):
        if name != "__pycache__":
            with open(os.path.join(PACKAGE, name), encoding="utf-8") as held:
                text = held.read()
            yield name, text, ast.parse(text)


def bound_names(tree):
    """Every name that the file gives to something, but methods and attributes."""
    methods = {id(row) for one in ast.walk(tree) if isinstance(one, ast.ClassDef) for row in one.body}
    for one in ast.walk(tree):
        if isinstance(one, ast.Name) and not isinstance(one.ctx, ast.Load):
            yield one.id
        elif isinstance(one, ast.arg):
            yield one.arg
        elif isinstance(one, (ast.FunctionDef, ast.ClassDef)) and id(one) not in methods:
            yield one.name
        elif isinstance(one, ast.alias):
            yield one.asname or one.name
        elif isinstance(one, ast.ExceptHandler) and one.name:
            yield one.name


def top_names(tree):
    """The names that the file binds at module level."""
    for row in tree.body:
        if isinstance(row, ast.ImportFrom):
            yield from [one.asname or one.name for one in row.names]
        elif isinstance(row, (ast.FunctionDef, ast.ClassDef)):
            yield row.name
        elif isinstance(row, ast.Assign):
            yield row.targets[0].id


class LanguageTest(unittest.TestCase):
    def test_files(self):
        names = [name for name, _, _ in files()]
        self.assertIn("__init__.py", names)
        for name in names:
            self.assertRegex(name, r"^(__init__|[a-z][a-z0-9_]*)\.py$")
            self.assertFalse(name[:-3] in NO_FILES | NO_WORDS | TAKEN, name)
            self.assertFalse(name.startswith(("test_", "law_")))

    def test_sizes_and_characters(self):
        for _, text, tree in files():
            self.assertEqual(re.sub(r"[ -~\n]", "", text), "")
            self.assertLessEqual(len(text.splitlines()), 399)
            self.assertLessEqual(max([len(line) for line in text.splitlines()]), 120)
            for one in ast.walk(tree):
                if isinstance(one, ast.FunctionDef):
                    self.assertLessEqual(one.end_lineno - one.lineno + 1, 40, one.name)

    def test_imports(self):
        homes = {"cutruns." + name[:-3]: tree for name, _, tree in files()}
        needs = {}
        for name, _, tree in files():
            here = needs.setdefault("cutruns." + name[:-3], [])
            for row in tree.body:
                if isinstance(row, ast.ImportFrom) and row.module in LIBRARY:
                    self.assertLessEqual({one.name for one in row.names}, set(LIBRARY[row.module].split()))
                elif isinstance(row, ast.ImportFrom):
                    self.assertEqual(row.level, 0)
                    here.append(row.module)
                    own = [one.name for one in homes[row.module].body if isinstance(one, (ast.FunctionDef, ast.ClassDef))]
                    own.extend([one.targets[0].id for one in homes[row.module].body if isinstance(one, ast.Assign)])
                    self.assertLessEqual({one.name for one in row.names}, set(own))
        done = set()
        while set(needs) - done:
            ready = [name for name in needs if name not in done and set(needs[name]) <= done]
            self.assertNotEqual(ready, [], "files import from each other")
            done.update(ready)

    def test_module_level(self):
        for _, _, tree in files():
            rows = tree.body[1:] if ast.get_docstring(tree) else tree.body
            allowed = (ast.ImportFrom, ast.FunctionDef, ast.ClassDef, ast.Assign)
            for at, row in enumerate(rows):
                self.assertIsInstance(row, allowed)
                if isinstance(row, ast.ImportFrom):
                    self.assertTrue(all([isinstance(one, ast.ImportFrom) for one in rows[:at]]))
                if isinstance(row, ast.Assign):
                    self.assertEqual(len(row.targets), 1)
                    ast.literal_eval(row.value)
            names = list(top_names(tree))
            self.assertEqual(len(names), len(set(names)))

    def test_nodes(self):
        for _, _, tree in files():
            for one in ast.walk(tree):
                self.assertIsInstance(one, NODES)
                self.assertNotIsInstance(one, (ast.Div, ast.MatMult))
                if isinstance(one, ast.Constant):
                    self.assertNotIsInstance(one.value, (float, complex))
                if isinstance(one, (ast.Is, ast.IsNot)):
                    continue
                if isinstance(one, ast.Compare) and isinstance(one.ops[0], (ast.Is, ast.IsNot)):
                    self.assertIsInstance(one.comparators[0], ast.Constant)
                if isinstance(one, ast.FunctionDef):
                    self.assertLessEqual({getattr(sign, "id", "") for sign in one.decorator_list}, {"property", "classmethod"})
                if isinstance(one, ast.ClassDef):
                    self.assertEqual(one.decorator_list, [])

    def test_names(self):
        for _, _, tree in files():
            top = set(top_names(tree))
            taken = {one.name for one in tree.body if isinstance(one, ast.ClassDef)}
            taken.update([one.name for row in tree.body if isinstance(row, ast.ImportFrom) for one in row.names])
            bound = list(bound_names(tree))
            for name in bound:
                self.assertRegex(name, r"^(_|_?[A-Za-z][A-Za-z0-9_]*)$")
                self.assertFalse(name in TAKEN, name)
                if name in taken:
                    self.assertEqual(bound.count(name), 1, name)
            for one in ast.walk(tree):
                if isinstance(one, ast.Name) and isinstance(one.ctx, ast.Load) and one.id not in set(bound) | top:
                    self.assertIn(one.id, BUILTINS | {"property", "classmethod"})
                if isinstance(one, ast.Attribute):
                    self.assertNotIn(one.attr, NEVER | {"format", "format_map", "args"})

    def test_methods(self):
        own = set()
        for _, _, tree in files():
            for one in ast.walk(tree):
                if isinstance(one, ast.ClassDef):
                    methods = [row.name for row in one.body if isinstance(row, ast.FunctionDef)]
                    self.assertEqual(len(methods), len(set(methods)), one.name)
                    own.update(methods)
                    self.assertLessEqual({name for name in methods if name.startswith("__")}, DOUBLE)
        for _, _, tree in files():
            for one in ast.walk(tree):
                if isinstance(one, ast.Call) and isinstance(one.func, ast.Attribute):
                    self.assertIn(one.func.attr, own | METHODS)

    def test_a_name_is_no_method_and_attribute_at_once(self):
        methods, attributes = {}, {}
        for _, _, tree in files():
            for one in ast.walk(tree):
                if isinstance(one, ast.FunctionDef) and one.args.args[:1] and one.args.args[0].arg == "self":
                    methods[one.name] = True
                if isinstance(one, ast.Attribute) and isinstance(one.ctx, ast.Store):
                    attributes[one.attr] = True
        self.assertEqual(sorted(set(methods) & set(attributes)), [])

    def test_sets_are_measured_and_sorted_alone(self):
        for _, _, tree in files():
            parents = {id(inner): one for one in ast.walk(tree) for inner in ast.iter_child_nodes(one)}
            for one in ast.walk(tree):
                made = isinstance(one, ast.Call) and getattr(one.func, "id", "") == "set"
                if made or isinstance(one, (ast.Set, ast.SetComp)):
                    self.assertIn(parents[id(one)].func.id, ("sorted", "len"))

    def test_words_and_strings(self):
        for _, text, tree in files():
            docs = {ast.get_docstring(one, clean=False) for one in ast.walk(tree)
                    if isinstance(one, (ast.Module, ast.ClassDef, ast.FunctionDef))}
            for token in tokenize.generate_tokens(io.StringIO(text).readline):
                if token.type == tokenize.COMMENT:
                    continue
                if token.type == tokenize.STRING and ast.literal_eval(token.string.lstrip("f")) in docs:
                    continue
                self.assertFalse(set(re.findall(r"\w+", token.string)) & NO_WORDS, token.string)
                if token.type == tokenize.STRING:
                    self.assertNotIn("%", token.string)
                    self.assertEqual(re.findall(r"\\[^nt\\'\"]", token.string), [])

    def test_errors_are_made_where_they_are_raised(self):
        for _, _, tree in files():
            for one in ast.walk(tree):
                if isinstance(one, ast.Raise) and one.exc is not None:
                    self.assertIsInstance(one.exc, ast.Call)
                    self.assertIsInstance(one.exc.func, ast.Name)
                if isinstance(one, ast.ExceptHandler):
                    self.assertIsNotNone(one.type)
