"""Those rules of the project's Python subset that a look at the text of the package can tell."""

import ast
import builtins
import io
import re
import tokenize
import unittest
from pathlib import Path

PACKAGE = Path(__file__).resolve().parent.parent / "ringstays"
LIBRARY = {
    "heapq": "heappush heappop heapify heapreplace heappushpop", "math": "gcd lcm isqrt comb perm factorial",
    "itertools": "product combinations permutations chain accumulate pairwise islice zip_longest",
    "collections": "defaultdict deque",
}
BUILTINS = set("""len range enumerate zip min max sum abs sorted reversed int str bool bytes list tuple dict set
frozenset isinstance ord repr any all divmod pow getattr hasattr setattr iter next map super property staticmethod
classmethod object type Exception ValueError TypeError KeyError IndexError LookupError ZeroDivisionError
ArithmeticError OverflowError RuntimeError NotImplementedError AttributeError StopIteration NotImplemented""".split())
BUILTIN_METHODS = set("""append clear copy count endswith extend find get index insert isalnum isalpha isdigit islower
isspace isupper items join keys ljust lower lstrip partition pop remove replace reverse rfind rjust rpartition rsplit
rstrip setdefault split splitlines startswith strip update upper values zfill bit_length title capitalize swapcase
casefold center expandtabs removeprefix removesuffix rindex isascii isdecimal isnumeric istitle isidentifier
isprintable add discard sort popleft appendleft extendleft rotate""".split())
BARRED_NAMES = set("""register mro elements open input law version_info with_traceback add_note attrgetter breakpoint
builtins compile copyright credits delattr dir eval exec exit gc globals help id importlib license locals methodcaller
os quit vars sys""".split())
BARRED_WORDS = re.compile(r"\b(type|typing|typing_extensions|enum|Enum|IntEnum|StrEnum|Flag|IntFlag|Generic|Protocol|"
                          r"ABC|ABCMeta|namedtuple|NamedTuple|TypedDict|TYPE_CHECKING|abstractmethod)\b"
                          r"|dataclass|overload|contextmanager|_wall|_WallAttr")
PYTHON_NAMES = {name for name in vars(builtins) if not name.startswith("_")}
STATEMENTS = (ast.Assign, ast.AugAssign, ast.AnnAssign, ast.If, ast.While, ast.For, ast.Return, ast.Break,
              ast.Continue, ast.Pass, ast.Raise, ast.Assert, ast.Delete, ast.Nonlocal, ast.Match, ast.With, ast.Try,
              ast.Expr, ast.FunctionDef, ast.ClassDef, ast.ImportFrom, ast.Global)


def files():
    return sorted(path for path in PACKAGE.rglob("*") if path.is_file() and "__pycache__" not in path.parts)


def trees():
    return [(path, ast.parse(path.read_text())) for path in files()]


def bound_names(tree):
    """All names that are bound anywhere in a file, with the nodes that bind them."""
    for node in ast.walk(tree):
        if isinstance(node, (ast.FunctionDef, ast.ClassDef)):
            yield node.name, node
        elif isinstance(node, ast.Name) and not isinstance(node.ctx, ast.Load):
            yield node.id, node
        elif isinstance(node, ast.arg):
            yield node.arg, node
        elif isinstance(node, ast.ImportFrom):
            for alias in node.names:
                yield alias.asname or alias.name, node
        elif isinstance(node, ast.ExceptHandler) and node.name:
            yield node.name, node


class Files(unittest.TestCase):
    def test_names(self):
        self.assertLessEqual(len(files()), 100)
        self.assertIn(PACKAGE / "__init__.py", files())
        for path in files():
            self.assertRegex(path.name, r"\A([a-z][a-z0-9_]*|__init__|__main__)\.py\Z")
            self.assertNotIn(path.stem, PYTHON_NAMES)
            self.assertNotRegex(path.stem, r"\A(test|tests|testing|test_.*|law_.*|site|conftest)\Z")

    def test_text(self):
        for path in files():
            data = path.read_bytes()
            self.assertTrue(all(byte == 10 or 32 <= byte <= 126 for byte in data), path)
            lines = data.decode().splitlines()
            self.assertLessEqual(len(lines), 399, path)
            self.assertLessEqual(max(map(len, lines)), 120, path)

    def test_functions_are_short(self):
        for path, tree in trees():
            for node in ast.walk(tree):
                if isinstance(node, ast.FunctionDef):
                    self.assertLessEqual(node.end_lineno - node.lineno + 1, 40, f"{path} {node.name}")

    def test_barred_words(self):
        for path in files():
            for token in tokenize.generate_tokens(io.StringIO(path.read_text()).readline):
                docstring = token.type == tokenize.STRING and token.string.startswith('"""')
                if token.type != tokenize.COMMENT and not docstring:
                    self.assertNotRegex(token.string, BARRED_WORDS, f"{path} {token.start}")


class Imports(unittest.TestCase):
    def test_from_the_very_file(self):
        defined = {path.stem: {name for name, node in bound_names(tree)
                               if node in tree.body or any(node in getattr(row, "targets", []) for row in tree.body)}
                   - {alias.name for row in tree.body if isinstance(row, ast.ImportFrom) for alias in row.names}
                   for path, tree in trees()}
        for path, tree in trees():
            for node in ast.walk(tree):
                self.assertNotIsInstance(node, ast.Import, path)
                if not isinstance(node, ast.ImportFrom):
                    continue
                self.assertIn(node, tree.body)
                self.assertEqual(node.level, 0)
                for alias in node.names:
                    self.assertIsNone(alias.asname)
                    if node.module in LIBRARY:
                        self.assertIn(alias.name, LIBRARY[node.module].split())
                    else:
                        package, file = node.module.split(".")
                        self.assertEqual(package, "ringstays")
                        self.assertIn(alias.name, defined[file], path)

    def test_no_cycles(self):
        needs = {path.stem: [row.module.split(".")[1] for row in tree.body
                             if isinstance(row, ast.ImportFrom) and row.module.startswith("ringstays.")]
                 for path, tree in trees()}
        while needs:
            free = [file for file, others in needs.items() if not any(other in needs for other in others)]
            self.assertTrue(free, needs)
            for file in free:
                del needs[file]

    def test_all_are_used(self):
        for path, tree in trees():
            used = {node.id for node in ast.walk(tree) if isinstance(node, ast.Name)}
            for row in tree.body:
                if isinstance(row, ast.ImportFrom):
                    for alias in row.names:
                        self.assertIn(alias.name, used, path)


class Names(unittest.TestCase):
    def test_bound_names(self):
        for path, tree in trees():
            for name, node in bound_names(tree):
                where = f"{path} {node.lineno} {name}"
                self.assertRegex(name, r"\A(_|_?[A-Za-z][A-Za-z0-9_]*|__[a-z]+__)\Z", where)
                self.assertNotIn(name, PYTHON_NAMES, where)
                self.assertNotIn(name, BARRED_NAMES, where)

    def test_imports_and_classes_are_not_shadowed(self):
        for path, tree in trees():
            top = [row.name for row in tree.body if isinstance(row, ast.ClassDef)]
            top += [alias.name for row in tree.body if isinstance(row, ast.ImportFrom) for alias in row.names]
            everywhere = [name for name, _ in bound_names(tree)]
            for name in top:
                self.assertEqual(everywhere.count(name), 1, f"{path} {name}")

    def test_once_at_module_level(self):
        for path, tree in trees():
            names = []
            for row in tree.body:
                if isinstance(row, ast.ImportFrom):
                    names += [alias.name for alias in row.names]
                elif isinstance(row, (ast.FunctionDef, ast.ClassDef)):
                    names.append(row.name)
                elif isinstance(row, ast.Assign):
                    names += [target.id for target in row.targets]
                else:
                    self.assertIsInstance(row.value, ast.Constant, path)
            self.assertEqual(len(names), len(set(names)), path)

    def test_underscore_is_never_read(self):
        for path, tree in trees():
            for node in ast.walk(tree):
                if isinstance(node, ast.Name) and node.id == "_":
                    self.assertNotIsInstance(node.ctx, ast.Load, path)

    def test_builtins(self):
        for path, tree in trees():
            for node in ast.walk(tree):
                if isinstance(node, ast.Name) and node.id in PYTHON_NAMES:
                    self.assertIn(node.id, BUILTINS, f"{path} {node.lineno}")


class Statements(unittest.TestCase):
    def methods(self):
        return {item.name for _, tree in trees() for node in ast.walk(tree) if isinstance(node, ast.ClassDef)
                for item in node.body if isinstance(item, ast.FunctionDef)}

    def test_statements(self):
        for path, tree in trees():
            for node in ast.walk(tree):
                if isinstance(node, ast.stmt):
                    self.assertIsInstance(node, STATEMENTS, f"{path} {node.lineno}")
                if isinstance(node, ast.FunctionDef):
                    self.assertEqual(node.decorator_list, [], path)

    def test_expressions(self):
        for path, tree in trees():
            for node in ast.walk(tree):
                where = f"{path} {getattr(node, 'lineno', 0)}"
                # Two classes have an __eq__, so any, all and their kin take lists.
                self.assertNotIsInstance(node, (ast.GeneratorExp, ast.SetComp, ast.Div, ast.Await), where)
                if isinstance(node, ast.Constant):
                    self.assertNotIsInstance(node.value, (float, complex, bytes), where)
                    if isinstance(node.value, str):
                        self.assertNotIn("%", node.value, where)
                if isinstance(node, ast.Compare):
                    self.check_is(node, where)

    def check_is(self, node, where):
        for operator, right in zip(node.ops, node.comparators):
            if isinstance(operator, (ast.Is, ast.IsNot)):
                self.assertIn(getattr(right, "value", 0), (None, True, False), where)
                self.assertIsInstance(right, ast.Constant, where)

    def test_methods(self):
        allowed = BUILTIN_METHODS | self.methods()
        for path, tree in trees():
            for node in ast.walk(tree):
                if isinstance(node, ast.Call) and isinstance(node.func, ast.Attribute):
                    self.assertIn(node.func.attr, allowed, f"{path} {node.lineno}")

    def test_lists_and_dicts_at_module_level_are_only_read(self):
        for path, tree in trees():
            kept = {target.id for row in tree.body if isinstance(row, ast.Assign) for target in row.targets
                    if isinstance(row.value, (ast.List, ast.Dict))}
            above = {child: node for node in ast.walk(tree) for child in ast.iter_child_nodes(node)}
            for node in ast.walk(tree):
                if isinstance(node, ast.Name) and node.id in kept and isinstance(node.ctx, ast.Load):
                    over = above[node]
                    self.assertIsInstance(over, (ast.Subscript, ast.Compare, ast.For, ast.comprehension, ast.Attribute),
                                          f"{path} {node.lineno}")

    def test_handlers_name_own_errors(self):
        own = {node.name for node in ast.parse((PACKAGE / "errors.py").read_text()).body
               if isinstance(node, ast.ClassDef)}
        for path, tree in trees():
            for node in ast.walk(tree):
                if isinstance(node, ast.ExceptHandler):
                    caught = node.type.elts if isinstance(node.type, ast.Tuple) else [node.type]
                    for one in caught:
                        self.assertIn(one.id, own | {"KeyError", "ZeroDivisionError"}, path)
                if isinstance(node, ast.Raise) and node.exc is not None:
                    self.assertIn(node.exc.func.id, own, path)
