"""The rules of the language in which the package is written, as far as a reading of its files can tell."""

import ast
import re
import tokenize
import unittest
from pathlib import Path

PACKAGE = Path(__file__).resolve().parent.parent / "nomoreseen"
FILES = sorted(PACKAGE.rglob("*.py"))
BUILTINS = set(
    "len range enumerate zip min max sum abs sorted reversed int str bool list tuple dict set isinstance ord repr any all divmod "
    "Exception ValueError TypeError KeyError IndexError".split()
)
LIBRARY = {
    "heapq": {"heappush", "heappop", "heapify"}, "math": {"gcd", "lcm", "isqrt"}, "itertools": {"product", "combinations", "permutations"},
    "collections": {"deque"},
}
METHODS = set(
    "append clear copy count endswith extend find get index insert isalnum isalpha isdigit islower isspace isupper items join keys "
    "ljust lower lstrip partition pop remove replace reverse rfind rjust rpartition rsplit rstrip setdefault split splitlines "
    "startswith strip update upper values zfill bit_length add discard popleft".split()
)
NO_WORDS = set(
    "type typing typing_extensions enum Enum IntEnum StrEnum Flag IntFlag Generic Protocol ABC ABCMeta namedtuple NamedTuple TypedDict "
    "TYPE_CHECKING abstractmethod register mro elements open input law version_info with_traceback add_note".split()
)
NO_ATTRIBUTES = set(
    "items keys values pop update append clear extend insert remove reverse setdefault sort args encode decode hex fromhex format".split()
)
NO_NODES = (
    ast.AsyncFunctionDef, ast.AsyncFor, ast.AsyncWith, ast.Await, ast.Global, ast.Lambda, ast.Div, ast.MatMult, ast.JoinedStr, ast.Yield,
    ast.YieldFrom, ast.GeneratorExp, ast.NamedExpr, ast.With, ast.Match, ast.Nonlocal, ast.Delete, ast.Starred,
)
ALL_BUILTINS = set(dir(__builtins__) if not isinstance(__builtins__, dict) else __builtins__)


def trees():
    for path in FILES:
        text = path.read_text()
        yield path, text, ast.parse(text)


def functions(tree):
    return [node for node in ast.walk(tree) if isinstance(node, ast.FunctionDef)]


def own_methods():
    return {part.name for _, _, tree in trees() for node in ast.walk(tree) if isinstance(node, ast.ClassDef) for part in node.body
            if isinstance(part, ast.FunctionDef)}


class Language(unittest.TestCase):
    def test_sizes_and_signs(self):
        self.assertLessEqual(len(FILES), 100)
        self.assertEqual([path for path in PACKAGE.rglob("*") if path.suffix != ".py" and "__pycache__" not in path.parts], [])
        for path, text, tree in trees():
            lines = text.split("\n")
            self.assertLessEqual(len(lines) - 1, 399, path)
            self.assertTrue(all(sign == "\n" or " " <= sign <= "~" for sign in text), path)
            self.assertLessEqual(max(map(len, lines)), 120, path)
            for node in functions(tree):
                self.assertLessEqual(node.end_lineno - node.lineno + 1, 40, (path, node.name))
                self.assertIsNotNone(re.fullmatch("(__init__|_?[a-z][a-z0-9_]*)", node.name), node.name)

    def test_statements(self):
        for path, _, tree in trees():
            for node in ast.walk(tree):
                self.assertNotIsInstance(node, NO_NODES, (path, getattr(node, "lineno", 0)))
                if isinstance(node, ast.Constant):
                    self.assertIn(type(node.value), (int, str, bool, type(None)))
                if isinstance(node, ast.FunctionDef):
                    self.assertEqual(node.decorator_list, [])
                if isinstance(node, (ast.Is, ast.IsNot)):
                    continue
                if isinstance(node, ast.Compare):
                    for sign, right in zip(node.ops, node.comparators):
                        if isinstance(sign, (ast.Is, ast.IsNot)):
                            self.assertIsInstance(right, ast.Constant)
            for node in tree.body:
                allowed = (ast.ImportFrom, ast.FunctionDef, ast.ClassDef, ast.Assign, ast.Expr)
                self.assertIsInstance(node, allowed, path)
                if isinstance(node, ast.Expr):
                    self.assertIs(node, tree.body[0])

    def test_docstrings(self):
        for path, _, tree in trees():
            self.assertTrue(ast.get_docstring(tree), path)
            for node in tree.body:
                if isinstance(node, (ast.ClassDef, ast.FunctionDef)) and not node.name.startswith("_"):
                    self.assertTrue(ast.get_docstring(node), (path, node.name))

    def test_imports(self):
        reached = {}
        for path, _, tree in trees():
            near = reached.setdefault(f"nomoreseen.{path.stem}", set())
            for node in ast.walk(tree):
                if isinstance(node, ast.ImportFrom):
                    self.assertIn(node, tree.body)
                    self.assertEqual([alias.asname for alias in node.names], [None] * len(node.names))
                    names = {alias.name for alias in node.names}
                    if node.module in LIBRARY:
                        self.assertLessEqual(names, LIBRARY[node.module])
                        continue
                    self.assertTrue(node.module.startswith("nomoreseen."), path)
                    near.add(node.module)
                    other = ast.parse((PACKAGE / f"{node.module.split('.')[1]}.py").read_text())
                    self.assertLessEqual(names, self.bound(other), (path, node.module))
        for start in reached:
            met, todo = set(), list(reached[start])
            while todo:
                name = todo.pop()
                if name not in met:
                    met.add(name)
                    todo.extend(reached[name])
            self.assertNotIn(start, met)

    def bound(self, tree):
        """The names that a file binds at its top, imports not counted; each once."""
        names = [node.name for node in tree.body if isinstance(node, (ast.FunctionDef, ast.ClassDef))]
        names += [target.id for node in tree.body if isinstance(node, ast.Assign) for target in node.targets]
        self.assertEqual(len(names), len(set(names)))
        return set(names)

    def test_names(self):
        for path, _, tree in trees():
            imports = {alias.name for node in tree.body if isinstance(node, ast.ImportFrom) for alias in node.names}
            barred = imports | {node.name for node in tree.body if isinstance(node, ast.ClassDef)}
            bound = self.bound(tree)
            self.assertFalse(bound & (ALL_BUILTINS | NO_WORDS | imports), path)
            local = set()
            for node in ast.walk(tree):
                if isinstance(node, ast.arg):
                    local.add(node.arg)
                if isinstance(node, ast.Name) and not isinstance(node.ctx, ast.Load):
                    local.add(node.id)
                if isinstance(node, ast.ExceptHandler) and node.name:
                    local.add(node.name)
            self.assertFalse(local & (barred | ALL_BUILTINS | NO_WORDS), (path, local & (barred | ALL_BUILTINS)))
            known = local | bound | imports | BUILTINS
            used = {node.id for node in ast.walk(tree) if isinstance(node, ast.Name)}
            self.assertLessEqual(used, known, path)
            self.assertNotIn("_", {node.id for node in ast.walk(tree) if isinstance(node, ast.Name) and isinstance(node.ctx, ast.Load)})

    def test_functions_do_not_shadow(self):
        # Stricter than the rules: no local name is called as a function of its file.
        for path, _, tree in trees():
            bound = self.bound(tree)
            for function in functions(tree):
                for node in ast.walk(function):
                    if isinstance(node, ast.Name) and not isinstance(node.ctx, ast.Load):
                        self.assertNotIn(node.id, bound, (path, function.name))

    def test_methods_and_attributes(self):
        methods = own_methods()
        self.assertFalse((methods - {"__init__"}) & METHODS)
        self.assertFalse(methods & NO_WORDS)
        attributes = set()
        for path, _, tree in trees():
            for node in ast.walk(tree):
                if isinstance(node, ast.Call) and isinstance(node.func, ast.Attribute):
                    self.assertIn(node.func.attr, METHODS | methods, (path, node.lineno))
                if isinstance(node, ast.Attribute) and isinstance(node.ctx, ast.Store):
                    attributes.add(node.attr)
        self.assertFalse(attributes & (NO_ATTRIBUTES | NO_WORDS | methods), attributes & methods)
        for path, _, tree in trees():
            for node in ast.walk(tree):
                if isinstance(node, ast.Attribute) and isinstance(node.ctx, ast.Load):
                    self.assertIn(node.attr, attributes | methods | METHODS, (path, node.lineno))

    def test_sets(self):
        # A set is assigned once, and only added to, asked and measured.
        for path, _, tree in trees():
            for function in functions(tree):
                names = [
                    node.targets[0].id for node in ast.walk(function)
                    if isinstance(node, ast.Assign) and isinstance(node.value, ast.Call)
                    and isinstance(node.value.func, ast.Name) and node.value.func.id == "set"
                ]
                for name in names:
                    stores = [node for node in ast.walk(function) if isinstance(node, ast.Name) and node.id == name
                              and isinstance(node.ctx, ast.Store)]
                    self.assertEqual(len(stores), 1)
            for node in ast.walk(tree):
                self.assertNotIsInstance(node, (ast.Set, ast.SetComp), path)

    def test_raises(self):
        errors = {node.name for node in ast.parse((PACKAGE / "errors.py").read_text()).body if isinstance(node, ast.ClassDef)}
        for path, _, tree in trees():
            for node in ast.walk(tree):
                if isinstance(node, ast.Raise):
                    self.assertIn(node.exc.func.id, errors, path)
                if isinstance(node, ast.ExceptHandler):
                    told = node.type.elts if isinstance(node.type, ast.Tuple) else [node.type]
                    self.assertLessEqual({name.id for name in told}, errors, path)

    def test_strings(self):
        for path in FILES:
            with open(path, "rb") as file:
                for token in tokenize.tokenize(file.readline):
                    if token.type == tokenize.STRING and not token.string.startswith('"""'):
                        self.assertNotIn("%", token.string)
                        self.assertIsNone(re.search(r"\\[^nt\\\"']", token.string))
                    if token.type not in (tokenize.COMMENT, tokenize.ENCODING) and not token.string.startswith('"""'):
                        found = set(re.findall("[A-Za-z_]+", token.string)) & NO_WORDS
                        self.assertFalse(found, (path, found))

    def test_ranges_and_their_kin_are_iterated_at_once(self):
        takers = ("list", "tuple", "dict", "sorted", "sum", "any", "all", "enumerate", "zip", "min", "max")
        for path, _, tree in trees():
            above = {inner: node for node in ast.walk(tree) for inner in ast.iter_child_nodes(node)}
            for node in ast.walk(tree):
                if not isinstance(node, ast.Call):
                    continue
                name = node.func.id if isinstance(node.func, ast.Name) else getattr(node.func, "attr", "")
                if name not in ("range", "zip", "enumerate", "reversed", "items", "keys", "values", "product", "combinations", "permutations"):
                    continue
                outer = above[node]
                if isinstance(outer, (ast.For, ast.comprehension)):
                    self.assertIs(outer.iter, node, (path, node.lineno))
                elif isinstance(outer, ast.Assign):
                    self.assertEqual(name, "range", (path, node.lineno))
                    self.assertIsInstance(outer.targets[0], ast.Name, (path, node.lineno))
                else:
                    self.assertIsInstance(outer, ast.Call, (path, node.lineno))
                    self.assertIn(outer.func.id, takers + (("reversed",) if name == "range" else ()), (path, node.lineno))

    def test_loops_do_not_change_what_they_go_over(self):
        changing = ("append", "extend", "pop", "popleft", "insert", "remove", "clear", "update", "setdefault", "add")
        for path, _, tree in trees():
            for node in ast.walk(tree):
                if not isinstance(node, ast.For):
                    continue
                told = node.iter.args[0] if isinstance(node.iter, ast.Call) and node.iter.args else node.iter
                if isinstance(node.iter, ast.Call) and getattr(node.iter.func, "id", "") in ("list", "tuple", "sorted"):
                    continue
                for inner in [part for row in node.body for part in ast.walk(row)]:
                    changed = []
                    if isinstance(inner, ast.Call) and isinstance(inner.func, ast.Attribute) and inner.func.attr in changing:
                        changed = [inner.func.value]
                    if isinstance(inner, ast.Assign):
                        changed = [target.value for target in inner.targets if isinstance(target, ast.Subscript)]
                    for value in changed:
                        self.assertNotEqual(ast.unparse(value), ast.unparse(told), (path, node.lineno))

    def test_no_default_is_changed(self):
        for path, _, tree in trees():
            for function in functions(tree):
                for default in function.args.defaults + function.args.kw_defaults:
                    self.assertIsInstance(default, (ast.Constant, ast.Tuple), (path, function.name))


if __name__ == "__main__":
    unittest.main()
