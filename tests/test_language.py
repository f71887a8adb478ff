"""The package keeps to its subset of Python, as far as a look at each file can tell (L1 to L28).

What this test refuses is at times more than the rules refuse: where the package
needs more, this test may be widened up to the rule.
"""

import ast
import builtins
import io
import os
import re
import tokenize
import unittest

PACKAGE = os.path.join(os.path.dirname(os.path.dirname(os.path.abspath(__file__))), "everypiece")

NODES = (
    "Module FunctionDef arguments arg ClassDef Return Assign AugAssign For While If Raise Try ExceptHandler Assert "
    "Import ImportFrom alias Expr Pass Break Continue Delete Call Name Attribute Subscript Slice Constant Tuple List "
    "Dict Set ListComp DictComp SetComp GeneratorExp comprehension BinOp BoolOp UnaryOp Compare IfExp Lambda Starred "
    "JoinedStr FormattedValue keyword Load Store Del And Or Not USub Invert Add Sub Mult FloorDiv Mod Pow LShift "
    "RShift BitOr BitXor BitAnd Eq NotEq Lt LtE Gt GtE Is IsNot In NotIn Yield YieldFrom"
).split()
BUILTINS = (
    "len range enumerate zip min max sum abs sorted reversed int str bool list tuple dict set isinstance ord repr any "
    "all divmod super map iter next Exception ValueError TypeError KeyError IndexError LookupError ZeroDivisionError"
).split()
CAUGHT = ("KeyError", "ZeroDivisionError")
METHODS = (
    "append clear copy count endswith extend find get index insert isalnum isalpha isdigit islower isspace isupper "
    "items join keys ljust lower lstrip partition pop remove replace reverse rfind rjust rpartition rsplit rstrip "
    "setdefault split splitlines startswith strip update upper values zfill bit_length isascii isdecimal isprintable "
    "removeprefix removesuffix rindex add discard __init__"
).split()
DUNDERS = "__init__ __eq__ __repr__ __str__ __len__".split()
LIBRARY = {"heapq": ("heappush", "heappop", "heapify", "heapreplace", "heappushpop"),
           "math": ("gcd", "lcm", "isqrt", "comb", "perm", "factorial"),
           "itertools": ("product", "combinations", "permutations", "chain", "accumulate", "pairwise", "islice")}
BARRED_NAMES = "register mro elements open input law version_info with_traceback add_note".split()
BARRED_WORDS = (
    "type typing typing_extensions enum Enum IntEnum StrEnum Flag IntFlag Generic Protocol ABC ABCMeta namedtuple "
    "NamedTuple TypedDict TYPE_CHECKING abstractmethod dataclass overload contextmanager"
).split()
BARRED_KEYS = "items keys values pop update append clear extend insert remove reverse setdefault sort args".split()
AT_ONCE = ("zip", "enumerate", "reversed", "range")
TAKERS = ("list", "tuple", "dict", "sorted", "sum", "any", "all", "enumerate", "zip", "min", "max", "len", "reversed")
LISTS_ONLY = ("any", "all", "min", "max", "sum", "sorted")


def file_names():
    return sorted(name for name in os.listdir(PACKAGE) if name != "__pycache__")


def source_of(name):
    with open(os.path.join(PACKAGE, name), encoding="utf-8", newline="") as file:
        return file.read()


def plain(node):
    """Whether a node is a plain value, or a table of such and of names."""
    if isinstance(node, ast.Constant):
        return not isinstance(node.value, (float, complex))
    if isinstance(node, ast.UnaryOp):
        return isinstance(node.op, ast.USub) and plain(node.operand)
    if isinstance(node, ast.Tuple):
        return all(plain(part) or isinstance(part, ast.Name) for part in node.elts)
    return False


def plain_table(node):
    if isinstance(node, ast.List):
        return all(plain(part) or isinstance(part, ast.Name) for part in node.elts)
    if isinstance(node, ast.Dict):
        return all(plain(part) or isinstance(part, ast.Name) for part in node.keys + node.values)
    return plain(node)


def docstrings(tree):
    found = []
    for node in ast.walk(tree):
        if isinstance(node, (ast.Module, ast.ClassDef, ast.FunctionDef)) and ast.get_docstring(node) is not None:
            found.append(node.body[0].value)
    return found


class LanguageTest(unittest.TestCase):

    def setUp(self):
        self.sources = {name: source_of(name) for name in file_names()}
        self.trees = {name: ast.parse(source) for name, source in self.sources.items()}

    def nodes(self, *kinds):
        for name, tree in self.trees.items():
            for node in ast.walk(tree):
                if isinstance(node, kinds):
                    yield f"{name}:{getattr(node, 'lineno', 0)}", node

    def test_files(self):
        for name in file_names():
            self.assertRegex(name, r"^[a-z_][a-z0-9_]*\.py$")
            self.assertFalse(name.startswith(("law_", "test", "conftest", "site")), name)
            self.assertNotIn(name[:-3], dir(builtins))
        self.assertIn("__init__.py", file_names())
        self.assertLessEqual(len(file_names()), 100)

    def test_characters_and_sizes(self):
        for name, source in self.sources.items():
            self.assertTrue(all(" " <= sign <= "~" or sign == "\n" for sign in source), name)
            lines = source.split("\n")
            self.assertLessEqual(len(lines), 399, name)
            self.assertLessEqual(max(map(len, lines)), 120, name)
            self.assertNotRegex(source, r"_wall|_WallAttr")
        for where, node in self.nodes(ast.FunctionDef):
            self.assertLessEqual(node.end_lineno - node.lineno + 1, 40, where)

    def test_only_the_statements_and_expressions_of_the_subset(self):
        for where, node in self.nodes(ast.AST):
            self.assertIn(type(node).__name__, NODES, where)
        for where, node in self.nodes(ast.FunctionDef, ast.ClassDef):
            self.assertEqual(node.decorator_list, [], where)

    def test_module_level(self):
        for name, tree in self.trees.items():
            bound = []
            for number, node in enumerate(tree.body):
                where = f"{name}:{node.lineno}"
                if isinstance(node, ast.Assign):
                    self.assertTrue(len(node.targets) == 1 and isinstance(node.targets[0], ast.Name), where)
                    self.assertTrue(plain_table(node.value), where)
                    bound.append(node.targets[0].id)
                elif isinstance(node, ast.ImportFrom):
                    bound += [alias.name for alias in node.names]
                elif isinstance(node, (ast.FunctionDef, ast.ClassDef)):
                    bound.append(node.name)
                else:
                    self.assertTrue(number == 0 and isinstance(node, ast.Expr), where)
            self.assertEqual(len(bound), len(set(bound)), name)
            for word in bound:
                self.assertNotIn(word, dir(builtins), name)

    def test_imports(self):
        ties = {}
        for name, tree in self.trees.items():
            ties[name] = []
            for node in ast.walk(tree):
                self.assertNotIsInstance(node, ast.Import, name)
                if not isinstance(node, ast.ImportFrom):
                    continue
                self.assertIn(node, tree.body)
                self.assertEqual(node.level, 0)
                self.assertTrue(all(alias.asname is None and alias.name != "*" for alias in node.names), name)
                if node.module in LIBRARY:
                    self.assertTrue(all(alias.name in LIBRARY[node.module] for alias in node.names), name)
                    continue
                self.assertRegex(node.module, r"^everypiece\.[a-z_]+$")
                other = node.module.split(".")[1] + ".py"
                ties[name].append(other)
                own = [part.name for part in self.trees[other].body
                       if isinstance(part, (ast.FunctionDef, ast.ClassDef))]
                own += [part.targets[0].id for part in self.trees[other].body if isinstance(part, ast.Assign)]
                for alias in node.names:
                    self.assertIn(alias.name, own, name)
                    self.assertGreater(len(re.findall(rf"\b{alias.name}\b", self.sources[name])), 1, alias.name)
        for _ in ties:
            ties = {name: [other for other in others if ties.get(other)] for name, others in ties.items()}
        self.assertEqual([name for name, others in ties.items() if others], [])

    def test_names(self):
        for name, tree in self.trees.items():
            tops = [node.name for node in tree.body if isinstance(node, ast.ClassDef)]
            tops += [alias.name for node in tree.body if isinstance(node, ast.ImportFrom) for alias in node.names]
            for node in ast.walk(tree):
                word = getattr(node, "id", None) if isinstance(getattr(node, "ctx", None), ast.Store) else None
                word = node.arg if isinstance(node, ast.arg) else word
                if word is not None:
                    where = f"{name}:{node.lineno} {word}"
                    self.assertRegex(word, r"^_?[A-Za-z][A-Za-z0-9_]*$|^_$", where)
                    self.assertNotIn(word, tops, where)
                    self.assertNotIn(word, dir(builtins), where)
                    self.assertNotIn(word, BARRED_NAMES, where)
                if isinstance(node, ast.Name) and isinstance(node.ctx, ast.Load):
                    self.assertNotEqual(node.id, "_", name)
                    if node.id in dir(builtins):
                        self.assertIn(node.id, BUILTINS, f"{name}:{node.lineno}")

    def test_methods_and_attributes(self):
        own = [node.name for _, node in self.nodes(ast.FunctionDef)]
        stored = [node.attr for _, node in self.nodes(ast.Attribute) if isinstance(node.ctx, ast.Store)]
        for where, node in self.nodes(ast.Call):
            if isinstance(node.func, ast.Attribute):
                self.assertTrue(node.func.attr in METHODS or node.func.attr in own, f"{where} {node.func.attr}")
                if node.func.attr not in own:
                    self.assertEqual(node.keywords, [], where)
        for where, node in self.nodes(ast.Attribute):
            self.assertNotIn(node.attr, BARRED_NAMES, where)
            if isinstance(node.ctx, ast.Store):
                self.assertNotIn(node.attr, BARRED_KEYS, where)
            elif node.attr not in METHODS and node.attr not in own:
                self.assertIn(node.attr, stored, where)
        for where, node in self.nodes(ast.ClassDef):
            names = [part.name for part in node.body if isinstance(part, ast.FunctionDef)]
            self.assertEqual(len(names), len(set(names)), where)
            for name in names:
                self.assertTrue(not name.startswith("__") or name in DUNDERS, where)

    def test_values(self):
        notes = [node for tree in self.trees.values() for node in docstrings(tree)]
        for where, node in self.nodes(ast.Constant):
            self.assertNotIsInstance(node.value, (float, complex, bytes), where)
            if isinstance(node.value, str):
                self.assertNotIn("%", node.value, where)
                self.assertNotRegex(node.value, r"\._$|\.__$|^__.*__$", where)
                if node not in notes:
                    for word in BARRED_WORDS:
                        self.assertNotRegex(node.value, rf"\b{word}\b", where)
        for where, node in self.nodes(ast.Compare):
            for sign, right in zip(node.ops, node.comparators):
                if isinstance(sign, (ast.Is, ast.IsNot)):
                    self.assertTrue(isinstance(right, ast.Constant) and right.value in (None, True, False), where)
        for where, node in self.nodes(ast.BinOp):
            if isinstance(node.op, ast.Pow):
                self.assertTrue(isinstance(node.right, ast.Constant) and 0 <= node.right.value <= 64, where)

    def test_what_is_iterated_at_once(self):
        for name, tree in self.trees.items():
            fine = []
            for node in ast.walk(tree):
                if isinstance(node, (ast.For, ast.comprehension)):
                    fine.append(node.iter)
                if isinstance(node, ast.Call) and isinstance(node.func, ast.Name) and node.func.id in TAKERS:
                    fine += node.args
                    if node.func.id in LISTS_ONLY:
                        # Library has an __eq__.
                        self.assertFalse([part for part in node.args if isinstance(part, ast.GeneratorExp)], name)
                if isinstance(node, ast.Call) and isinstance(node.func, ast.Attribute) and node.func.attr == "join":
                    fine += node.args
                if isinstance(node, ast.Compare):
                    fine += [right for sign, right in zip(node.ops, node.comparators) if isinstance(sign, ast.In)]
            for node in ast.walk(tree):
                if isinstance(node, ast.Call) and isinstance(node.func, ast.Name) and node.func.id in AT_ONCE:
                    self.assertIn(node, fine, f"{name}:{node.lineno}")

    def test_lists_and_dicts_at_module_level_are_only_read(self):
        tables = [node.targets[0].id for tree in self.trees.values() for node in tree.body
                  if isinstance(node, ast.Assign) and isinstance(node.value, (ast.List, ast.Dict))]
        self.assertIn("FORMS", tables)
        for name, tree in self.trees.items():
            fine = []
            for node in ast.walk(tree):
                if isinstance(node, ast.Subscript) and isinstance(node.ctx, ast.Load):
                    fine.append(node.value)
                if isinstance(node, ast.Compare):
                    fine += node.comparators
                if isinstance(node, (ast.For, ast.comprehension)):
                    fine.append(node.iter)
                if isinstance(node, ast.Attribute) and node.attr in ("get", "items", "keys", "values", "index", "count"):
                    fine.append(node.value)
                if isinstance(node, ast.Call) and isinstance(node.func, ast.Name):
                    fine += node.args if node.func.id in ("dict", "list", "len", "sorted", "max", "min", "sum") else []
            for node in ast.walk(tree):
                if isinstance(node, ast.Name) and isinstance(node.ctx, ast.Load) and node.id in tables:
                    self.assertIn(node, fine, f"{name}:{node.lineno}")

    def test_no_name_is_a_method_and_an_attribute(self):
        stored = [node.attr for _, node in self.nodes(ast.Attribute) if isinstance(node.ctx, ast.Store)]
        for where, node in self.nodes(ast.ClassDef):
            for part in node.body:
                if isinstance(part, ast.FunctionDef):
                    self.assertNotIn(part.name, stored, where)

    def test_errors(self):
        own = [node.name for node in self.trees["errors.py"].body if isinstance(node, ast.ClassDef)]
        for where, node in self.nodes(ast.ExceptHandler):
            kinds = node.type.elts if isinstance(node.type, ast.Tuple) else [node.type]
            for kind in kinds:
                self.assertIn(kind.id, own + list(CAUGHT), where)
        for where, node in self.nodes(ast.Raise):
            self.assertTrue(node.exc is None or isinstance(node.exc, ast.Call) and node.exc.func.id in own, where)

    def test_words(self):
        for name, source in self.sources.items():
            for part in tokenize.generate_tokens(io.StringIO(source).readline):
                if part.type == tokenize.NAME:
                    self.assertNotIn(part.string, BARRED_WORDS, name)
                    self.assertTrue(not part.string.startswith("__") or part.string in DUNDERS, name)


if __name__ == "__main__":
    unittest.main()
