"""Whether the package keeps the rules of its language that can be seen file by file.

The rules are those of LANGUAGE.md; where a rule allows more than the package needs, less is allowed here.
"""

import ast
import builtins
import io
import os
import re
import tokenize
import unittest

TOP = os.path.dirname(os.path.dirname(os.path.abspath(__file__)))
FOLDER = os.path.join(TOP, "ownseen")
LIBRARY = {
    "heapq": ("heappush", "heappop", "heapify", "heapreplace", "heappushpop"),
    "math": ("gcd", "lcm", "isqrt", "comb", "perm", "factorial"),
    "itertools": ("product", "combinations", "permutations", "chain", "accumulate", "pairwise", "islice", "zip_longest"),
    "collections": ("defaultdict",),
}
BUILTINS = (
    "len range enumerate zip min max sum abs sorted reversed int str bool bytes list tuple dict set isinstance ord repr "
    "any all divmod iter next map super Exception ValueError TypeError KeyError IndexError LookupError ZeroDivisionError "
    "ArithmeticError OverflowError RuntimeError NotImplementedError StopIteration NotImplemented"
).split()
METHODS = (
    "append clear copy count endswith extend find get index insert isalnum isalpha isdigit islower isspace isupper items "
    "join keys ljust lower lstrip partition pop remove replace reverse rfind rjust rpartition rsplit rstrip setdefault "
    "split splitlines startswith strip update upper values zfill bit_length add discard"
).split()
DUNDERS = (
    "__init__ __eq__ __repr__ __str__ __len__ __enter__ __exit__ __call__ __iter__ __bool__ __contains__ __getitem__"
).split()
WORDS_BARRED = (
    "type typing typing_extensions enum Enum IntEnum StrEnum Flag IntFlag Generic Protocol ABC ABCMeta namedtuple "
    "NamedTuple TypedDict TYPE_CHECKING abstractmethod"
).split()
NAMES_BARRED = (
    "register mro elements open input law version_info with_traceback add_note attrgetter breakpoint builtins compile "
    "copyright credits delattr dir eval exec exit gc getattr globals hasattr help id importlib license locals "
    "methodcaller os quit setattr super type vars sys"
).split()
ATTRIBUTES_BARRED = (
    "items keys values pop update append clear extend insert remove reverse setdefault sort args encode decode hex "
    "fromhex format format_map mro register elements open input law"
).split()
STATEMENTS = (
    ast.Assign, ast.AugAssign, ast.If, ast.While, ast.For, ast.Return, ast.Break, ast.Continue, ast.Pass, ast.Raise,
    ast.Assert, ast.Delete, ast.Try, ast.Expr, ast.FunctionDef, ast.ClassDef, ast.ImportFrom,
)
AT_ONCE = "list tuple dict sorted sum any all enumerate zip min max".split()
PASSING = ("zip", "enumerate", "reversed", "range", "map", "items", "keys", "values", "combinations", "permutations", "product")


def sources():
    names = sorted(name for name in os.listdir(FOLDER) if name != "__pycache__")
    told = {}
    for name in names:
        with open(os.path.join(FOLDER, name), encoding="ascii", newline="") as file:
            told[name] = file.read()
    return told


SOURCES = sources()
TREES = {name: ast.parse(source) for name, source in SOURCES.items()}


def nodes(kind):
    """All nodes of the kind, with the file and the parents of each."""
    for name, tree in TREES.items():
        stack = [(tree, ())]
        while stack:
            node, parents = stack.pop()
            if isinstance(node, kind):
                yield name, node, parents
            stack.extend((child, parents + (node,)) for child in ast.iter_child_nodes(node))


def called(node):
    """The bare name that is called, the name of a method that is, or None."""
    if not isinstance(node, ast.Call):
        return None
    return node.func.id if isinstance(node.func, ast.Name) else getattr(node.func, "attr", None)


def is_at_once(node, parents):
    """Whether what the node gives is iterated on the spot."""
    parent = parents[-1]
    if isinstance(parent, (ast.For, ast.comprehension)):
        return parent.iter is node
    return called(parent) in AT_ONCE or (isinstance(parent, ast.Call) and called(parent) == "join")


def is_property(node):
    """Whether the node is a method that is read as an attribute."""
    return isinstance(node, ast.FunctionDef) and any(getattr(told, "id", None) == "property" for told in node.decorator_list)


def docstrings(tree):
    told = set()
    for node in ast.walk(tree):
        if isinstance(node, (ast.Module, ast.ClassDef, ast.FunctionDef)) and node.body:
            first = node.body[0]
            if isinstance(first, ast.Expr) and isinstance(first.value, ast.Constant) and isinstance(first.value.value, str):
                told.add(first.value)
    return told


def bound_at_top(tree):
    names = []
    for node in tree.body:
        if isinstance(node, ast.ImportFrom):
            names += [alias.name for alias in node.names]
        elif isinstance(node, (ast.FunctionDef, ast.ClassDef)):
            names.append(node.name)
        elif isinstance(node, ast.Assign):
            names += [target.id for target in node.targets]
    return names


def local_names(function):
    told = [arg.arg for arg in ast.walk(function) if isinstance(arg, ast.arg)]
    return told + [node.id for node in ast.walk(function) if isinstance(node, ast.Name) and isinstance(node.ctx, ast.Store)]


class LanguageTest(unittest.TestCase):
    def assert_none(self, found):
        self.assertEqual(list(found), [])

    def test_files(self):
        self.assertIn("__init__.py", SOURCES)
        self.assertLessEqual(len(SOURCES), 100)
        for name, source in SOURCES.items():
            self.assertRegex(name, r"^([a-z][a-z0-9_]*|__init__|__main__)\.py$")
            self.assertFalse(name[:-3] in dir(builtins) or name.startswith(("law_", "test")) or name[:-3] in WORDS_BARRED)
            self.assertTrue(all(sign == "\n" or " " <= sign <= "~" for sign in source), name)
            lines = source.split("\n")
            self.assertLessEqual(len(lines), 399, name)
            self.assertLessEqual(max(len(line) for line in lines), 120, name)
            self.assertTrue(source.endswith("\n") and not source.endswith("\n\n"), name)

    def test_functions_are_short(self):
        self.assert_none((name, node.name) for name, node, _ in nodes(ast.FunctionDef) if node.end_lineno - node.lineno >= 40)

    def test_statements(self):
        self.assert_none((name, node.lineno) for name, node, _ in nodes(ast.stmt) if not isinstance(node, STATEMENTS))
        for name, tree in TREES.items():
            for node in tree.body:
                self.assertIsInstance(node, (ast.ImportFrom, ast.FunctionDef, ast.ClassDef, ast.Assign, ast.Expr), name)

    def test_imports(self):
        needs = {}
        for name, node, parents in nodes((ast.Import, ast.ImportFrom)):
            self.assertEqual(len(parents), 1, name)
            self.assertIsInstance(node, ast.ImportFrom, name)
            needs.setdefault(name, [])
            for alias in node.names:
                self.assertIsNone(alias.asname, name)
                if node.module in LIBRARY:
                    self.assertIn(alias.name, LIBRARY[node.module])
                    continue
                self.assertTrue(node.module.startswith("ownseen.") and node.level == 0, (name, node.module))
                file = node.module[len("ownseen."):] + ".py"
                needs[name].append(file)
                made = [told for told in TREES[file].body if not isinstance(told, ast.ImportFrom)]
                self.assertIn(alias.name, bound_at_top(ast.Module(made, [])), (name, file))
                used = [told.id for told in ast.walk(TREES[name]) if isinstance(told, ast.Name)]
                self.assertIn(alias.name, used, (name, "unused"))
        left = dict(needs)
        while left:
            free = [name for name in left if not any(need in left for need in left[name])]
            self.assertTrue(free, ("files import one another", sorted(left)))
            for name in free:
                del left[name]

    def test_names(self):
        for name, tree in TREES.items():
            top = bound_at_top(tree)
            self.assertEqual(len(top), len(set(top)), name)
            barred = set(dir(builtins)) | set(NAMES_BARRED)
            self.assertFalse(barred & set(top) - {"_"}, name)
            classes = {node.name for node in tree.body if isinstance(node, ast.ClassDef)}
            imports = {alias.name for node in tree.body if isinstance(node, ast.ImportFrom) for alias in node.names}
            for node in ast.walk(tree):
                if isinstance(node, ast.FunctionDef):
                    found = set(local_names(node)) & (classes | imports | barred)
                    self.assertFalse(found, (name, node.name, found))
                    known = set(local_names(node)) | set(top) | set(BUILTINS)
                    used = {told.id for told in ast.walk(node) if isinstance(told, ast.Name) and isinstance(told.ctx, ast.Load)}
                    self.assertFalse(used - known - {"staticmethod", "classmethod", "property"}, (name, node.name))
                    self.assertNotIn("_", used, (name, node.name))
                if isinstance(node, (ast.Name, ast.arg)):
                    word = node.id if isinstance(node, ast.Name) else node.arg
                    self.assertFalse(word.startswith("__"), (name, word))

    def test_words(self):
        for name, source in SOURCES.items():
            told = {node.lineno for node in docstrings(TREES[name])}
            for token in tokenize.generate_tokens(io.StringIO(source).readline):
                if token.type in (tokenize.NAME, tokenize.STRING) and token.start[0] not in told:
                    words = set(re.findall(r"\w+", token.string))
                    self.assertFalse(words & set(WORDS_BARRED), (name, token.string))
                if token.type == tokenize.STRING:
                    self.assertNotIn("%", token.string, name)
                    self.assertFalse(re.search(r"\\[^nt\\'\"]", token.string), (name, token.string))

    def test_values(self):
        for name, node, _ in nodes(ast.Constant):
            self.assertNotIsInstance(node.value, (float, complex), name)
        for name, node, _ in nodes(ast.BinOp):
            self.assertNotIsInstance(node.op, (ast.Div, ast.MatMult), name)
            if isinstance(node.op, ast.Pow):
                self.assertTrue(isinstance(node.right, ast.Constant) and 0 <= node.right.value <= 64, (name, node.lineno))
        barred = (ast.GeneratorExp, ast.NamedExpr, ast.Await, ast.AnnAssign, ast.Global, ast.Nonlocal)
        self.assert_none((name, node.lineno) for name, node, _ in nodes(barred))
        for name, node, parents in nodes((ast.ListComp, ast.DictComp, ast.SetComp)):
            self.assertTrue(any(isinstance(parent, ast.FunctionDef) for parent in parents), (name, node.lineno))
        for name, node, _ in nodes(ast.Compare):
            for sign, other in zip(node.ops, node.comparators):
                if isinstance(sign, (ast.Is, ast.IsNot)):
                    self.assertIsInstance(other, ast.Constant, (name, node.lineno))

    def test_functions_and_classes(self):
        for name, node, parents in nodes(ast.FunctionDef):
            for decorator in node.decorator_list:
                self.assertIn(getattr(decorator, "id", None), ("staticmethod", "classmethod", "property"), name)
                self.assertIsInstance(parents[-1], ast.ClassDef)
            if node.name.startswith("__"):
                self.assertIn(node.name, DUNDERS, name)
                self.assertIsInstance(parents[-1], ast.ClassDef)
            if node.name == "__init__":
                self.assert_none(told.lineno for told in ast.walk(node) if isinstance(told, ast.Return))
            if node.name in ("__str__", "__repr__", "__len__", "__bool__"):
                self.assertIsInstance(node.body[-1], ast.Return)
            told = node.args.defaults + [default for default in node.args.kw_defaults if default is not None]
            self.assertTrue(all(isinstance(default, (ast.Constant, ast.Tuple)) for default in told), (name, node.name))
        for name, node, parents in nodes(ast.ClassDef):
            self.assertIsInstance(parents[-1], ast.Module)
            self.assertFalse(node.decorator_list or node.keywords, name)
            methods = [told.name for told in node.body if isinstance(told, ast.FunctionDef)]
            self.assertEqual(len(methods), len(set(methods)), node.name)

    def test_attributes_and_methods(self):
        methods = {node.name for _, node, parents in nodes(ast.FunctionDef) if isinstance(parents[-1], ast.ClassDef)}
        stored = {node.attr for _, node, _ in nodes(ast.Attribute) if isinstance(node.ctx, ast.Store)}
        properties = {node.name for _, node, _ in nodes(ast.FunctionDef) if is_property(node)}
        self.assert_apart(methods & stored)
        self.assertFalse(stored & set(ATTRIBUTES_BARRED))
        for name, node, parents in nodes(ast.Attribute):
            if isinstance(parents[-1], ast.Call) and parents[-1].func is node:
                self.assertIn(node.attr, set(METHODS) | methods, (name, node.lineno))
            elif isinstance(node.ctx, ast.Load) and node.attr not in ("__class__", "__name__"):
                self.assertIn(node.attr, stored | properties, (name, node.lineno))

    def assert_apart(self, both):
        """Names that are methods and attributes are so in unlike classes, and no method is read off a class."""
        classes = {node.name: node for _, node, _ in nodes(ast.ClassDef)}
        for name, node in classes.items():
            above = [classes[base.id] for base in node.bases if getattr(base, "id", None) in classes]
            family = [told for one in [node, *above] for told in ast.walk(one)]
            methods = {told.name for told in family if isinstance(told, ast.FunctionDef)}
            stored = {told.attr for told in family if isinstance(told, ast.Attribute) and isinstance(told.ctx, ast.Store)}
            self.assertFalse(methods & stored, name)
        for name, node, parents in nodes(ast.Attribute):
            self.assertFalse(isinstance(node.value, ast.Name) and node.value.id in classes, (name, node.lineno))
            if both and any(is_property(parent) for parent in parents):
                self.assertFalse(isinstance(parents[-1], ast.Call) and parents[-1].func is node and node.attr in both, name)

    def test_properties(self):
        for name, node, _ in nodes(ast.FunctionDef):
            if is_property(node):
                self.assertEqual(len(node.body), 2, (name, node.name))
                self.assertIsInstance(node.body[1], ast.Return)

    def test_generators(self):
        yielding = set()
        for name, node, parents in nodes((ast.Yield, ast.YieldFrom)):
            self.assertIsInstance(parents[-1], ast.Expr, name)
            self.assertFalse(any(isinstance(told, (ast.ClassDef, ast.Try)) for told in parents), name)
            yielding.add([told for told in parents if isinstance(told, ast.FunctionDef)][-1].name)
        made = [node.name for _, node, _ in nodes(ast.FunctionDef)]
        for word in yielding:
            self.assertEqual(made.count(word), 1, word)
            used = [name for name, node, _ in nodes(ast.Name) if node.id == word]
            self.assertEqual(used, [], word)

    def test_module_tables_are_plain(self):
        for name, tree in TREES.items():
            for node in tree.body:
                if isinstance(node, ast.Assign):
                    inner = [told for told in ast.walk(node.value) if isinstance(told, (ast.List, ast.Dict))]
                    self.assertFalse([told for told in inner if told is not node.value], (name, node.lineno))
                    names = [told for told in ast.walk(node.value) if isinstance(told, (ast.Name, ast.BinOp, ast.Call))]
                    self.assertEqual(names, [], (name, node.lineno))

    def test_what_is_iterated_at_once(self):
        for name, node, parents in nodes(ast.Call):
            if called(node) in PASSING and not is_at_once(node, parents):
                tested = called(node) == "range" and isinstance(parents[-1], ast.Compare)
                self.assertTrue(tested or called(parents[-1]) in ("len", "reversed"), (name, node.lineno))
            for keyword in node.keywords:
                if isinstance(node.func, ast.Name) and node.func.id in BUILTINS:
                    self.assertIn(keyword.arg, ("key", "reverse", "default", "start", "strict"), (name, node.lineno))
            if called(node) in BUILTINS:
                self.assertFalse(any(isinstance(arg, ast.Starred) for arg in node.args), (name, node.lineno))

    def test_sets(self):
        for name, node, parents in nodes((ast.Set, ast.SetComp, ast.Call)):
            if isinstance(node, ast.Call) and called(node) not in ("set", "frozenset"):
                continue
            self.assertNotEqual(called(node), "frozenset", name)
            parent = parents[-1]
            if isinstance(parent, ast.Assign):
                self.assert_stored_set(name, parent.targets[0].id, [told for told in parents if isinstance(told, ast.FunctionDef)][-1])
            else:
                self.assertTrue(called(parent) in ("sorted", "len") or isinstance(parent, ast.Compare), (name, node.lineno))

    def assert_stored_set(self, name, word, function):
        self.assertEqual(local_names(function).count(word), 1, (name, word))
        for node in ast.walk(function):
            for child in ast.iter_child_nodes(node):
                if isinstance(child, ast.Name) and child.id == word and isinstance(child.ctx, ast.Load):
                    fine = isinstance(node, ast.Compare) or called(node) in ("len", "sorted")
                    fine = fine or (isinstance(node, ast.Attribute) and node.attr in ("add", "discard"))
                    self.assertTrue(fine, (name, word, child.lineno))

    def test_loops_do_not_change_what_they_go_over(self):
        changing = ("append", "extend", "insert", "pop", "remove", "clear", "reverse", "setdefault", "update")
        for name, loop, _ in nodes(ast.For):
            overs = {ast.unparse(node) for node in ast.walk(loop.iter) if isinstance(node, (ast.Name, ast.Attribute))}
            for node in (told for row in loop.body for told in ast.walk(row)):
                if isinstance(node, ast.Call) and isinstance(node.func, ast.Attribute) and node.func.attr in changing:
                    self.assertNotIn(ast.unparse(node.func.value), overs, (name, node.lineno))
                if isinstance(node, ast.Subscript) and isinstance(node.ctx, (ast.Store, ast.Del)):
                    self.assertNotIn(ast.unparse(node.value), overs, (name, node.lineno))

    def test_errors(self):
        own = set(bound_at_top(TREES["errors.py"]))
        for name, node, _ in nodes(ast.Raise):
            self.assertTrue(node.exc is None or called(node.exc) in own | {"ValueError", "TypeError"}, (name, node.lineno))
        for name, node, _ in nodes(ast.ExceptHandler):
            for told in node.type.elts if isinstance(node.type, ast.Tuple) else [node.type]:
                self.assertIn(getattr(told, "id", None), own | {"KeyError", "ZeroDivisionError"}, (name, node.lineno))


if __name__ == "__main__":
    unittest.main()
