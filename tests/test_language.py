"""Those rules of the project's Python subset that a look at the text of the package can tell."""

import ast
import builtins
import io
import re
import tokenize
import unittest
from pathlib import Path

PACKAGE = Path(__file__).resolve().parent.parent / "ringstays"
LIBRARY = {
    "heapq": "heappush heappop heapify heapreplace heappushpop", "math": "gcd lcm isqrt comb perm factorial",
    "itertools": "product combinations permutations chain accumulate pairwise islice zip_longest",
    "collections": "defaultdict deque",
}
BUILTINS = set("""len range enumerate zip min max sum abs sorted reversed int str bool bytes list tuple dict set
frozenset isinstance ord repr any all divmod pow getattr hasattr setattr iter next map super property staticmethod
classmethod object type Exception ValueError TypeError KeyError IndexError LookupError ZeroDivisionError
ArithmeticError OverflowError RuntimeError NotImplementedError AttributeError StopIteration NotImplemented""".split())
BUILTIN_METHODS = set("""append clear copy count endswith extend find get index insert isalnum isalpha isdigit islower
isspace isupper items join keys ljust lower lstrip partition pop remove replace reverse rfind rjust rpartition rsplit
rstrip setdefault split splitlines startswith strip update upper values zfill bit_length title capitalize swapcase
casefold center expandtabs removeprefix removesuffix rindex isascii isdecimal isnumeric istitle isidentifier
isprintable add discard sort popleft appendleft extendleft rotate""".split())
BARRED_NAMES = set("""register mro elements open input law version_info with_traceback add_note attrgetter breakpoint
builtins compile copyright credits delattr dir eval exec exit gc globals help id importlib license locals methodcaller
os quit vars sys""".split())
BARRED_WORDS = re.compile(r"\b(type|typing|typing_extensions|enum|Enum|IntEnum|StrEnum|Flag|IntFlag|Generic|Protocol|"
                          r"ABC|ABCMeta|namedtuple|NamedTuple|TypedDict|TYPE_CHECKING|abstractmethod)\b"
                          r"|dataclass|overload|contextmanager|_wall|_WallAttr")
PYTHON_NAMES = {name for name in vars(builtins) if not name.startswith("_")}
STATEMENTS = (ast.Assign, ast.AugAssign, ast.AnnAssign, ast.If, ast.While, ast.For, ast.Return, ast.Break,
              ast.Continue, ast.Pass, ast.Raise, ast.Assert, ast.Delete, ast.Nonlocal, ast.Match, ast.With, ast.Try,
              ast.Expr, ast.FunctionDef, ast.ClassDef, ast.ImportFrom, ast.Global)


def files():
    return sorted(path for path in PACKAGE.rglob("*") if path.is_file() and "__pycache__" not in path.parts)


def trees():
    return [(path, ast.parse(path.read_text())) for path in files()]


VIEWS = ("items", "keys", "values")
ONCE = ("range", "zip", "enumerate", "reversed", "map", "product", "combinations", "permutations", "chain",
        "accumulate", "pairwise", "islice", "zip_longest")
TAKES_ONE = ("list", "tuple", "dict", "sorted", "sum", "any", "all", "enumerate", "min", "max", "deque")
TAKES_RANGE = ("len", "reversed", "zip", "product", "combinations", "permutations")


def above_in(tree):
    """The node right above each node."""
    return {child: node for node in ast.walk(tree) for child in ast.iter_child_nodes(node)}


def iterator_of(node):
    """The name of what the node makes that is to be iterated at once, None for any other node."""
    if not isinstance(node, ast.Call):
        return None
    if isinstance(node.func, ast.Name) and node.func.id in ONCE:
        return node.func.id
    if isinstance(node.func, ast.Attribute) and node.func.attr in VIEWS:
        return node.func.attr
    return None


def is_iterated_at_once(node, over):
    """Whether the node right above an iterator iterates it on the spot; a name that keeps one does not."""
    kind = iterator_of(node)
    if isinstance(over, (ast.For, ast.comprehension)):
        return node is over.iter
    if isinstance(over, ast.Compare):
        asked = node is over.comparators[-1] and isinstance(over.ops[-1], (ast.In, ast.NotIn))
        return asked and kind in ("range", "keys")
    if not isinstance(over, ast.Call) or node not in over.args:
        return False
    if isinstance(over.func, ast.Attribute):
        return over.func.attr == "join" and isinstance(over.func.value, ast.Constant)
    if not isinstance(over.func, ast.Name):
        return False
    if over.func.id in ("min", "max"):
        return len(over.args) == 1
    if over.func.id in TAKES_ONE:
        return node is over.args[0]
    if over.func.id == "zip":
        return kind in ("range", "zip", "enumerate", "reversed") + VIEWS
    return over.func.id in TAKES_RANGE and (kind == "range" or over.func.id == "len" and kind in VIEWS)


def kept_iterators(tree):
    """The lines with a range, zip, enumerate, reversed or view that is kept or passed on (L23)."""
    above = above_in(tree)
    return sorted(node.lineno for node in above if iterator_of(node) and not is_iterated_at_once(node, above[node]))


def stars_in_indexes(tree):
    """The lines with a star anywhere within the brackets of an index (L7)."""
    return sorted(star.lineno for star in {star for node in ast.walk(tree) if isinstance(node, ast.Subscript)
                                           for star in ast.walk(node.slice) if isinstance(star, ast.Starred)})


CHANGES = ("append", "clear", "extend", "insert", "pop", "remove", "reverse", "setdefault", "update", "sort", "popleft",
           "appendleft", "extendleft", "rotate", "add", "discard")


def iterated_names(node):
    """The texts of all names and attributes that an iterable goes over, also through enumerate, zip and views."""
    if isinstance(node, (ast.Name, ast.Attribute)):
        return {ast.unparse(node)}
    if isinstance(node, ast.Call) and isinstance(node.func, ast.Attribute) and node.func.attr in VIEWS:
        return iterated_names(node.func.value)
    if iterator_of(node) in ("enumerate", "zip", "reversed"):
        return set().union(*[iterated_names(one) for one in node.args])
    if isinstance(node, (ast.BoolOp, ast.IfExp)):
        parts = node.values if isinstance(node, ast.BoolOp) else [node.body, node.orelse]
        return set().union(*[iterated_names(one) for one in parts])
    return set()


def changed_by(node):
    """The texts of what a node changes by a method, an item or del."""
    if isinstance(node, ast.Call) and isinstance(node.func, ast.Attribute) and node.func.attr in CHANGES:
        yield ast.unparse(node.func.value)
    if isinstance(node, ast.Subscript) and not isinstance(node.ctx, ast.Load):
        yield ast.unparse(node.value)
    if isinstance(node, ast.AugAssign):
        yield ast.unparse(node.target)


def changed_while_iterated(tree):
    """The lines that change what a loop around them iterates over (L23)."""
    found = []
    for loop in ast.walk(tree):
        if isinstance(loop, ast.For):
            names = iterated_names(loop.iter)
            found += [inner.lineno for row in loop.body for inner in ast.walk(row)
                      for text in changed_by(inner) if text in names]
    return sorted(found)


def wrong_keywords(tree):
    """The lines that pass a keyword to a builtin or to a method of a builtin value that may not have it (L22)."""
    allowed = {"sorted": ("key", "reverse"), "min": ("key", "default"), "max": ("key", "default"), "sum": ("start",),
               "enumerate": ("start",), "zip": ("strict",)}
    return sorted(node.lineno for node in ast.walk(tree) if isinstance(node, ast.Call)
                  for keyword in node.keywords
                  if isinstance(node.func, ast.Name) and node.func.id in PYTHON_NAMES
                  and keyword.arg not in allowed.get(node.func.id, ())
                  or isinstance(node.func, ast.Attribute) and node.func.attr in BUILTIN_METHODS)


def stray_sets(tree):
    """The lines with a set that stands anywhere but in sorted(..), len(..) or behind in (L24)."""
    above, found = above_in(tree), []
    for node in above:
        made = isinstance(node, ast.Call) and isinstance(node.func, ast.Name) and node.func.id in ("set", "frozenset")
        if made or isinstance(node, (ast.Set, ast.SetComp)):
            over = above[node]
            kept = isinstance(over, ast.Call) and isinstance(over.func, ast.Name) and over.func.id in ("sorted", "len")
            behind = isinstance(over, ast.Compare) and isinstance(over.ops[-1], (ast.In, ast.NotIn))
            if not (kept and not over.keywords) and not behind:
                found.append(node.lineno)
    return sorted(found)


def wrong_defaults(tree):
    """The lines of functions with a default that is not plain (L4)."""
    def is_plain(node):
        if isinstance(node, ast.UnaryOp):
            return isinstance(node.op, ast.USub) and isinstance(node.operand, ast.Constant)
        if isinstance(node, ast.Tuple):
            return all(map(is_plain, node.elts))
        return isinstance(node, (ast.Constant, ast.Name))
    return sorted(node.lineno for node in ast.walk(tree) if isinstance(node, ast.arguments)
                  for node in node.defaults + [one for one in node.kw_defaults if one] if not is_plain(node))


def wrong_powers(tree):
    """The lines with an exponent that is not a literal from 0 to 64 (L27)."""
    return sorted(node.lineno for node in ast.walk(tree) if isinstance(node, ast.BinOp) and isinstance(node.op, ast.Pow)
                  and not (isinstance(node.right, ast.Constant) and 0 <= node.right.value <= 64))


def far_attributes(tree):
    """The lines that assign an attribute otherwise than through a name (L18)."""
    return sorted(node.lineno for node in ast.walk(tree) if isinstance(node, ast.Attribute)
                  and not isinstance(node.ctx, ast.Load) and not isinstance(node.value, ast.Name))


def methods_as_attributes(tree):
    """The lines of classes of which a method has the name of an attribute that they assign (L18)."""
    found = []
    for node in ast.walk(tree):
        if isinstance(node, ast.ClassDef):
            methods = {row.name for row in node.body if isinstance(row, ast.FunctionDef)}
            assigned = {inner.attr for inner in ast.walk(node) if isinstance(inner, ast.Attribute)
                        and not isinstance(inner.ctx, ast.Load) and ast.unparse(inner.value) == "self"}
            found += [node.lineno] * len(methods & assigned)
    return sorted(found)


def bound_names(tree):
    """All names that are bound anywhere in a file, with the nodes that bind them."""
    for node in ast.walk(tree):
        if isinstance(node, (ast.FunctionDef, ast.ClassDef)):
            yield node.name, node
        elif isinstance(node, ast.Name) and not isinstance(node.ctx, ast.Load):
            yield node.id, node
        elif isinstance(node, ast.arg):
            yield node.arg, node
        elif isinstance(node, ast.ImportFrom):
            for alias in node.names:
                yield alias.asname or alias.name, node
        elif isinstance(node, ast.ExceptHandler) and node.name:
            yield node.name, node


class Files(unittest.TestCase):
    def test_names(self):
        self.assertLessEqual(len(files()), 100)
        self.assertIn(PACKAGE / "__init__.py", files())
        for path in files():
            self.assertRegex(path.name, r"\A([a-z][a-z0-9_]*|__init__|__main__)\.py\Z")
            self.assertNotIn(path.stem, PYTHON_NAMES)
            self.assertNotRegex(path.stem, r"\A(test|tests|testing|test_.*|law_.*|site|conftest)\Z")

    def test_text(self):
        for path in files():
            data = path.read_bytes()
            self.assertTrue(all(byte == 10 or 32 <= byte <= 126 for byte in data), path)
            lines = data.decode().splitlines()
            self.assertLessEqual(len(lines), 399, path)
            self.assertLessEqual(max(map(len, lines)), 120, path)

    def test_functions_are_short(self):
        for path, tree in trees():
            for node in ast.walk(tree):
                if isinstance(node, ast.FunctionDef):
                    self.assertLessEqual(node.end_lineno - node.lineno + 1, 40, f"{path} {node.name}")

    def test_barred_words(self):
        for path in files():
            for token in tokenize.generate_tokens(io.StringIO(path.read_text()).readline):
                docstring = token.type == tokenize.STRING and token.string.startswith('"""')
                if token.type != tokenize.COMMENT and not docstring:
                    self.assertNotRegex(token.string, BARRED_WORDS, f"{path} {token.start}")


class Imports(unittest.TestCase):
    def test_from_the_very_file(self):
        defined = {path.stem: {name for name, node in bound_names(tree)
                               if node in tree.body or any(node in getattr(row, "targets", []) for row in tree.body)}
                   - {alias.name for row in tree.body if isinstance(row, ast.ImportFrom) for alias in row.names}
                   for path, tree in trees()}
        for path, tree in trees():
            for node in ast.walk(tree):
                self.assertNotIsInstance(node, ast.Import, path)
                if not isinstance(node, ast.ImportFrom):
                    continue
                self.assertIn(node, tree.body)
                self.assertEqual(node.level, 0)
                for alias in node.names:
                    self.assertIsNone(alias.asname)
                    if node.module in LIBRARY:
                        self.assertIn(alias.name, LIBRARY[node.module].split())
                    else:
                        package, file = node.module.split(".")
                        self.assertEqual(package, "ringstays")
                        self.assertIn(alias.name, defined[file], path)

    def test_no_cycles(self):
        needs = {path.stem: [row.module.split(".")[1] for row in tree.body
                             if isinstance(row, ast.ImportFrom) and row.module.startswith("ringstays.")]
                 for path, tree in trees()}
        while needs:
            free = [file for file, others in needs.items() if not any(other in needs for other in others)]
            self.assertTrue(free, needs)
            for file in free:
                del needs[file]

    def test_all_are_used(self):
        for path, tree in trees():
            used = {node.id for node in ast.walk(tree) if isinstance(node, ast.Name)}
            for row in tree.body:
                if isinstance(row, ast.ImportFrom):
                    for alias in row.names:
                        self.assertIn(alias.name, used, path)


class Names(unittest.TestCase):
    def test_bound_names(self):
        for path, tree in trees():
            for name, node in bound_names(tree):
                where = f"{path} {node.lineno} {name}"
                self.assertRegex(name, r"\A(_|_?[A-Za-z][A-Za-z0-9_]*|__[a-z]+__)\Z", where)
                self.assertNotIn(name, PYTHON_NAMES, where)
                self.assertNotIn(name, BARRED_NAMES, where)

    def test_imports_and_classes_are_not_shadowed(self):
        for path, tree in trees():
            top = [row.name for row in tree.body if isinstance(row, ast.ClassDef)]
            top += [alias.name for row in tree.body if isinstance(row, ast.ImportFrom) for alias in row.names]
            everywhere = [name for name, _ in bound_names(tree)]
            for name in top:
                self.assertEqual(everywhere.count(name), 1, f"{path} {name}")

    def test_once_at_module_level(self):
        for path, tree in trees():
            names = []
            for row in tree.body:
                if isinstance(row, ast.ImportFrom):
                    names += [alias.name for alias in row.names]
                elif isinstance(row, (ast.FunctionDef, ast.ClassDef)):
                    names.append(row.name)
                elif isinstance(row, ast.Assign):
                    names += [target.id for target in row.targets]
                else:
                    self.assertIsInstance(row.value, ast.Constant, path)
            self.assertEqual(len(names), len(set(names)), path)

    def test_underscore_is_never_read(self):
        for path, tree in trees():
            for node in ast.walk(tree):
                if isinstance(node, ast.Name) and node.id == "_":
                    self.assertNotIsInstance(node.ctx, ast.Load, path)

    def test_builtins(self):
        for path, tree in trees():
            for node in ast.walk(tree):
                if isinstance(node, ast.Name) and node.id in PYTHON_NAMES:
                    self.assertIn(node.id, BUILTINS, f"{path} {node.lineno}")


# For each of these judges rows that it takes and rows that it does not.
JUDGED = [
    (kept_iterators,
     ["for a in range(3): pass", "b = list(range(3))", "b = [a for a in zip(c, range(3))]", "b = len(range(3))",
      "for a in reversed(range(3)): pass", "b = sorted(d.items())", "b = k in d.keys()", "b = a in range(3)",
      "b = ', '.join(d.values())", "for a, (b, c) in enumerate(zip(d, e)): pass", "b = max(range(3))",
      "b = list(combinations(range(3), 2))", "b = len(d.items())", "b = dict(zip(c, d))", "f(list(range(3)))",
      "f(a=[b for b in d.items()])", "for a in zip(c, d.values()): pass"],
     ["find_cycle(range(3), c)", "f(a=range(3))", "f(*range(3))", "self.f(1, zip(a, b))", "f(enumerate(a))",
      "f(reversed(a))", "f(d.items())", "f(d.keys())", "f(d.values())", "box.f(range(3))", "b = f(range(3))[0]",
      "f(g(range(3)))", "f([range(3)])", "f(lambda a: range(a))", "b = range(3)", "return_ = (range(3), 1)",
      "for b in reversed(zip(a, c)): pass", "b = len(zip(a, c))", "b = zip(a, c) == d", "b = a in d.values()",
      "b = set(range(3))",
      "xs.extend(range(3))", "b = min(range(3), a)", "b = sum(a, range(3))", "b = a.join(d.keys())", "f(map(str, a))",
      "def f(a):\n return range(a)", "b = f(permutations(a))"]),
    (stars_in_indexes,
     ["b = a[c]", "b = (*a, 1)", "b = [*a][0]", "key = (c, *a)\nd[key] = 1", "f(*a)[0]", "d.get((1, *a))"],
     ["d[(1, *a)] = 1", "b = d[*a]", "b = d[1, *a]", "del d[(1, *a)]", "d[((*a, 1), 2)] += 1", "b = d[f(*a)]",
      "b = d[[*a][0]]", "b = d[e[(*a, 1)]]", "b = a[(*c,):]"]),
    (changed_while_iterated,
     ["for a in list(b): b.append(a)", "for a in b: c.append(a)", "for a in b:\n c[a] = 1", "for a in b.c: b.d.pop()"],
     ["for a in b: b.append(a)", "for a in b:\n b[a] = 1", "for a, c in enumerate(b): b.pop()",
      "for a, c in b.items():\n del b[a]", "for a in b.c: b.c.append(a)", "for a in b or c: c.clear()",
      "for a, d in zip(b, c):\n if a:\n  c[a] += 1", "for a in b:\n b += [a]"]),
    (wrong_keywords,
     ["sorted(a, key=len, reverse=True)", "max(a, default=0)", "f(key=1)", "zip(a, b, strict=True)", "a.f(b=1)"],
     ["list(a=1)", "sum(a, key=b)", "a.split(sep=b)", "a.index(b, at=1)", "sorted(a, by=1)"]),
    (stray_sets,
     ["b = sorted(set(a))", "b = len({c for c in a})", "b = a in {1, 2}"],
     ["b = set(a)", "for b in set(a): pass", "f({1, 2})", "b = frozenset(a)", "b = sorted(set(a), reverse=True)"]),
    (wrong_defaults,
     ["def f(a=1, *, b=None, c=(), d=(0, -1), e=LIMIT): pass", "f(lambda a: a)"],
     ["def f(a=[]): pass", "def f(*, a={}): pass", "def f(a=g()): pass", "def f(a=(1, [])): pass"]),
    (far_attributes,
     ["self.a = 1", "self.a[0] = 1", "self.a.b[c] += 1", "a.b, c = d", "self.a.b.append(1)", "a = b.c.d"],
     ["self.a.b = 1", "self.a[0].b += 1", "f().a = 1", "a[0].b, c = d", "for a.b.c in d: pass", "del a.b.c"]),
    (methods_as_attributes,
     ["class A:\n def b(self):\n  self.c = self.b()", "class A:\n def b(self, d):\n  d.b = 1"],
     ["class A:\n def b(self):\n  self.b = 1", "class A:\n def b(self): pass\n def c(self):\n  self.d, self.b = 1, 2"]),
    (wrong_powers, ["b = 2 ** 16", "b = a ** 2"], ["b = 2 ** a", "b = 2 ** 65", "b = 2 ** (1 + 1)"]),
]


class Judges(unittest.TestCase):
    def test_the_package(self):
        for judge, _, _ in JUDGED:
            for path, tree in trees():
                self.assertEqual(judge(tree), [], f"{path} {judge.__name__}")

    def test_what_they_take(self):
        for judge, good, _ in JUDGED:
            for text in good:
                self.assertEqual(judge(ast.parse(text)), [], text)

    def test_what_they_see(self):
        for judge, _, bad in JUDGED:
            for text in bad:
                self.assertEqual(len(judge(ast.parse(text))), 1, text)


class Statements(unittest.TestCase):
    def methods(self):
        return {item.name for _, tree in trees() for node in ast.walk(tree) if isinstance(node, ast.ClassDef)
                for item in node.body if isinstance(item, ast.FunctionDef)}

    def test_statements(self):
        for path, tree in trees():
            for node in ast.walk(tree):
                if isinstance(node, ast.stmt):
                    self.assertIsInstance(node, STATEMENTS, f"{path} {node.lineno}")
                if isinstance(node, ast.FunctionDef):
                    self.assertEqual(node.decorator_list, [], path)

    def test_expressions(self):
        for path, tree in trees():
            for node in ast.walk(tree):
                where = f"{path} {getattr(node, 'lineno', 0)}"
                # Two classes have an __eq__, so any, all and their kin take lists.
                self.assertNotIsInstance(node, (ast.GeneratorExp, ast.SetComp, ast.Div, ast.Await), where)
                if isinstance(node, ast.Constant):
                    self.assertNotIsInstance(node.value, (float, complex, bytes), where)
                    if isinstance(node.value, str):
                        self.assertNotIn("%", node.value, where)
                if isinstance(node, ast.Compare):
                    self.check_is(node, where)

    def check_is(self, node, where):
        for operator, right in zip(node.ops, node.comparators):
            if isinstance(operator, (ast.Is, ast.IsNot)):
                self.assertIn(getattr(right, "value", 0), (None, True, False), where)
                self.assertIsInstance(right, ast.Constant, where)

    def test_methods(self):
        allowed = BUILTIN_METHODS | self.methods()
        for path, tree in trees():
            for node in ast.walk(tree):
                if isinstance(node, ast.Call) and isinstance(node.func, ast.Attribute):
                    self.assertIn(node.func.attr, allowed, f"{path} {node.lineno}")

    def test_lists_and_dicts_at_module_level_are_only_read(self):
        for path, tree in trees():
            kept = {target.id for row in tree.body if isinstance(row, ast.Assign) for target in row.targets
                    if isinstance(row.value, (ast.List, ast.Dict))}
            above = above_in(tree)
            for node in ast.walk(tree):
                if isinstance(node, ast.Name) and node.id in kept and isinstance(node.ctx, ast.Load):
                    over = above[node]
                    self.assertIsInstance(over, (ast.Subscript, ast.Compare, ast.For, ast.comprehension, ast.Attribute),
                                          f"{path} {node.lineno}")

    def test_handlers_name_own_errors(self):
        own = {node.name for node in ast.parse((PACKAGE / "errors.py").read_text()).body
               if isinstance(node, ast.ClassDef)}
        for path, tree in trees():
            for node in ast.walk(tree):
                if isinstance(node, ast.ExceptHandler):
                    caught = node.type.elts if isinstance(node.type, ast.Tuple) else [node.type]
                    for one in caught:
                        self.assertIn(one.id, own | {"KeyError", "ZeroDivisionError"}, path)
                if isinstance(node, ast.Raise) and node.exc is not None:
                    self.assertIn(node.exc.func.id, own, path)
