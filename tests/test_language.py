"""The package is written in the subset of Python that the project has chosen; what can be seen is looked at."""

import ast
import builtins
import pathlib
import re
import unittest

PACKAGE = pathlib.Path(__file__).resolve().parent.parent / "letparts"
LIBRARY = {
    "heapq": "heappush heappop heapify heapreplace heappushpop",
    "itertools": "product combinations permutations",
    "math": "gcd lcm isqrt comb perm factorial"}
BUILTINS = """
    len range enumerate zip min max sum abs sorted reversed int str bool list tuple dict set isinstance ord repr any all
    divmod Exception ValueError TypeError KeyError IndexError LookupError ZeroDivisionError ArithmeticError OverflowError
    RuntimeError NotImplementedError property classmethod""".split()
METHODS = """
    append clear copy count endswith extend find get index insert isalnum isalpha isdigit islower isspace isupper items
    join keys ljust lower lstrip partition pop remove replace reverse rfind rjust rpartition rsplit rstrip setdefault
    split splitlines startswith strip update upper values zfill bit_length""".split()
BARRED_NAMES = """
    register mro elements open input law version_info with_traceback add_note attrgetter breakpoint builtins compile
    copyright credits delattr dir eval exec exit gc getattr globals hasattr help id importlib license locals methodcaller
    os quit setattr super type vars sys""".split()
BARRED_WORDS = re.compile(
    r"\b(typing|enum|Enum|Flag|Generic|Protocol|ABC|namedtuple|NamedTuple|TypedDict|_wall)\b|dataclass")
NODES = """
    Module Expr Constant ImportFrom alias FunctionDef arguments arg ClassDef Return Assign AugAssign If While For Break
    Continue Pass Raise Name Load Store Attribute Subscript Slice Tuple List Dict Set BoolOp And Or UnaryOp Not USub
    BinOp Add Sub Mult FloorDiv Mod Pow BitXor BitAnd BitOr LShift Compare Eq NotEq Lt LtE Gt GtE Is IsNot In NotIn
    Lambda Call keyword IfExp ListComp DictComp SetComp comprehension JoinedStr FormattedValue Starred With withitem Match
    match_case MatchValue MatchAs Try ExceptHandler""".split()
DOUBLE = "__init__ __eq__ __str__ __len__ __bool__ __enter__ __exit__".split()
FILES = {path: ast.parse(path.read_text()) for path in sorted(PACKAGE.rglob("*.py"))}


CLASSES = {node.name: node for tree in FILES.values() for node in tree.body if isinstance(node, ast.ClassDef)}
OWN_METHODS = [node.name for each in CLASSES.values() for node in each.body if isinstance(node, ast.FunctionDef)]


def bound_at_module_level(tree):
    found = []
    for node in tree.body:
        if isinstance(node, (ast.FunctionDef, ast.ClassDef)):
            found.append(node.name)
        elif isinstance(node, ast.Assign):
            found += [target.id for target in node.targets]
        elif isinstance(node, ast.ImportFrom):
            found += [name.name for name in node.names]
    return found


def names_bound_within(function):
    found = {arg.arg for arg in ast.walk(function) if isinstance(arg, ast.arg)}
    return found | {node.id for node in ast.walk(function)
                    if isinstance(node, ast.Name) and isinstance(node.ctx, ast.Store)}


def nodes(*kinds):
    for path, tree in FILES.items():
        for node in ast.walk(tree):
            if isinstance(node, kinds):
                yield path.name, node


class Language(unittest.TestCase):
    def test_files(self):
        for path in PACKAGE.rglob("*"):
            if "__pycache__" not in path.parts:
                self.assertRegex(path.name, r"\A[a-z][a-z0-9_]*\.py\Z|\A__init__\.py\Z")
        for path in FILES:
            text = path.read_text()
            self.assertRegex(text, r"\A[ -~\n]*\Z", path.name)
            lines = text.split("\n")
            self.assertLessEqual(len(lines), 399, path.name)
            self.assertLessEqual(max(map(len, lines)), 120, path.name)

    def test_short_functions(self):
        for name, node in nodes(ast.FunctionDef):
            self.assertLessEqual(node.end_lineno - node.lineno + 1, 40, (name, node.name))

    def test_nodes(self):
        for path, tree in FILES.items():
            for node in ast.walk(tree):
                self.assertIn(type(node).__name__, NODES, (path.name, getattr(node, "lineno", None)))

    def test_imports(self):
        needs = {}
        for path, tree in FILES.items():
            needs[path.stem] = []
            for node in tree.body:
                if not isinstance(node, ast.ImportFrom):
                    continue
                self.assertEqual(node.level, 0)
                names = [name.name for name in node.names]
                self.assertEqual([name.asname for name in node.names], [None] * len(names))
                if node.module in LIBRARY:
                    self.assertLessEqual(set(names), set(LIBRARY[node.module].split()))
                    continue
                package, stem = node.module.split(".")
                self.assertEqual(package, "letparts")
                tree_there = FILES[PACKAGE / f"{stem}.py"]
                own = [n.name if hasattr(n, "name") else n.targets[0].id for n in tree_there.body
                       if isinstance(n, (ast.FunctionDef, ast.ClassDef, ast.Assign))]
                self.assertLessEqual(set(names), set(own), (path.name, node.module))
                self.assertFalse([name for name in names if name.startswith("_")], path.name)
                needs[path.stem].append(stem)
        done = set()
        while len(done) < len(needs):
            ready = {stem for stem in needs if stem not in done and set(needs[stem]) <= done}
            self.assertTrue(ready, "two files import from each other")
            done |= ready

    def test_library_names_are_called_by_position_alone(self):
        for path, tree in FILES.items():
            names = {name.name for node in tree.body if isinstance(node, ast.ImportFrom) and node.module in LIBRARY
                     for name in node.names}
            calls = [node for node in ast.walk(tree) if isinstance(node, ast.Call)]
            called = [call.func for call in calls]
            for call in calls:
                if getattr(call.func, "id", None) in names:
                    self.assertFalse(call.keywords, (path.name, call.lineno))
            for node in ast.walk(tree):
                if isinstance(node, ast.Name) and node.id in names:
                    self.assertIn(node, called, (path.name, node.lineno))

    def test_each_import_is_used(self):
        for path, tree in FILES.items():
            used = {node.id for node in ast.walk(tree) if isinstance(node, ast.Name)}
            for node in tree.body:
                if isinstance(node, ast.ImportFrom):
                    self.assertLessEqual({name.name for name in node.names}, used, path.name)

    def test_names(self):
        for path, tree in FILES.items():
            top = bound_at_module_level(tree)
            self.assertEqual(len(top), len(set(top)), path.name)
            taken = {name.name for node in tree.body if isinstance(node, ast.ImportFrom) for name in node.names}
            taken |= {node.name for node in tree.body if isinstance(node, ast.ClassDef)}
            for node in ast.walk(tree):
                if isinstance(node, ast.FunctionDef):
                    self.assertFalse(names_bound_within(node) & taken, (path.name, node.name))
            bound = set(top) | names_bound_within(tree)
            self.assertFalse(bound & (set(dir(builtins)) | set(BARRED_NAMES)), path.name)
            for name in bound:
                self.assertRegex(name, r"\A(_|_?[A-Za-z][A-Za-z0-9_]*)\Z")
            for node in ast.walk(tree):
                if isinstance(node, ast.Name) and isinstance(node.ctx, ast.Load):
                    self.assertIn(node.id, bound | set(BUILTINS), (path.name, node.lineno))
                    self.assertNotEqual(node.id, "_")

    def test_methods(self):
        for name, node in nodes(ast.Call):
            if isinstance(node.func, ast.Attribute):
                self.assertIn(node.func.attr, METHODS + OWN_METHODS, (name, node.lineno))
                self.assertFalse(node.keywords, (name, node.lineno))

    def test_classes(self):
        properties = set()
        for name, each in CLASSES.items():
            methods = [node for node in each.body if isinstance(node, ast.FunctionDef)]
            names = [node.name for node in methods]
            self.assertEqual(len(names), len(set(names)), name)
            self.assertEqual(len(methods) + 1, len(each.body), name)
            for node in methods:
                if node.name.startswith("__"):
                    self.assertIn(node.name, DOUBLE)
                kinds = [mark.id for mark in node.decorator_list]
                self.assertIn(kinds, ([], ["property"], ["classmethod"]))
                if kinds == ["property"]:
                    properties.add(node.name)
                    self.assertEqual(len(node.args.args), 1)
            stored = {node.attr for node in ast.walk(each)
                      if isinstance(node, ast.Attribute) and isinstance(node.ctx, ast.Store)}
            self.assertFalse(stored & set(names), name)
        plain = [node.name for each in CLASSES.values() for node in each.body if not getattr(node, "decorator_list", [1])]
        self.assertFalse(properties & set(plain))
        self.assertFalse(properties & set(METHODS))

    def test_trials_end_plainly(self):
        ends = [node for each in CLASSES.values() for node in each.body if getattr(node, "name", None) == "__exit__"]
        self.assertEqual(len(ends), 1)
        for node in ends[0].body:
            rows = [node]
            if isinstance(node, ast.If):
                self.assertEqual(ast.unparse(node.test), "kind is not None")
                rows = node.body
            for row in rows:
                self.assertIsInstance(row, ast.Assign)
                self.assertIsInstance(row.targets[0], ast.Attribute)
                self.assertIsInstance(row.value, ast.Attribute)
        for name, node in nodes(ast.withitem):
            self.assertIn(node.context_expr.func.id, CLASSES, name)

    def test_own_errors_are_caught_alone(self):
        for name, node in nodes(ast.ExceptHandler):
            for kind in node.type.elts if isinstance(node.type, ast.Tuple) else [node.type]:
                self.assertIn(kind.id, CLASSES, name)
            self.assertIsNone(node.name)

    def test_cases_are_plain(self):
        for name, node in nodes(ast.MatchValue):
            self.assertIsInstance(node.value.value, str, name)
        for name, node in nodes(ast.MatchAs):
            self.assertEqual((node.pattern, node.name), (None, None), name)
        for name, node in nodes(ast.match_case):
            self.assertIsNone(node.guard, name)

    def test_tables_are_read_alone(self):
        for path, tree in FILES.items():
            tables = {node.targets[0].id for node in tree.body
                      if isinstance(node, ast.Assign) and isinstance(node.value, (ast.Dict, ast.List))}
            read = [node.value for node in ast.walk(tree) if isinstance(node, ast.Subscript)]
            read += [node.value for node in ast.walk(tree) if isinstance(node, ast.Attribute) and node.attr == "get"]
            read += [node.comparators[0] for node in ast.walk(tree) if isinstance(node, ast.Compare)]
            for node in ast.walk(tree):
                if isinstance(node, ast.Name) and isinstance(node.ctx, ast.Load) and node.id in tables:
                    self.assertIn(node, read, (path.name, node.lineno))

    def test_powers_have_literal_exponents(self):
        for name, node in nodes(ast.BinOp):
            if isinstance(node.op, ast.Pow):
                self.assertIsInstance(node.right, ast.Constant, name)
                self.assertIn(node.right.value, range(65), name)

    def test_constants(self):
        for name, node in nodes(ast.Constant):
            self.assertIn(type(node.value), (int, str, bool, type(None)), name)
            if isinstance(node.value, str):
                self.assertNotIn("%", node.value, name)

    def test_sets_stand_in_sorted_or_len_alone(self):
        for path, tree in FILES.items():
            allowed = []
            for node in ast.walk(tree):
                if isinstance(node, ast.Call) and isinstance(node.func, ast.Name) and node.func.id in ("sorted", "len"):
                    allowed += [one for inner in node.args for one in
                                ([inner.left, inner.right] if isinstance(inner, ast.BinOp) else [inner])]
            for node in ast.walk(tree):
                made = isinstance(node, (ast.Set, ast.SetComp)) or (
                    isinstance(node, ast.Call) and isinstance(node.func, ast.Name) and node.func.id == "set")
                if made:
                    self.assertIn(node, allowed, (path.name, node.lineno))

    def test_identity_with_plain_values_alone(self):
        for name, node in nodes(ast.Compare):
            for sign, right in zip(node.ops, node.comparators):
                if isinstance(sign, (ast.Is, ast.IsNot)):
                    self.assertIsInstance(right, ast.Constant, (name, node.lineno))

    def test_barred_words(self):
        for path in FILES:
            self.assertIsNone(BARRED_WORDS.search(path.read_text()), path.name)

    def test_loops_leave_alone_what_they_go_over(self):
        for name, loop in nodes(ast.For):
            over = {node.id for node in ast.walk(loop.iter) if isinstance(node, ast.Name)}
            if isinstance(loop.iter, ast.Call) and getattr(loop.iter.func, "id", None) == "range":
                continue
            for statement in loop.body:
                for node in ast.walk(statement):
                    changed = None
                    if isinstance(node, (ast.Assign, ast.AugAssign)):
                        targets = node.targets if isinstance(node, ast.Assign) else [node.target]
                        changed = {inner.id for target in targets for inner in ast.walk(target)
                                   if isinstance(inner, ast.Name) and not isinstance(target, ast.Name)
                                   and inner is getattr(target, "value", None)}
                    elif isinstance(node, ast.Call) and isinstance(node.func, ast.Attribute) and node.func.attr in (
                            "append", "clear", "extend", "insert", "pop", "remove", "reverse", "setdefault", "update"):
                        changed = {getattr(node.func.value, "id", None)}
                    self.assertFalse(changed and changed & over, (name, loop.lineno))


if __name__ == "__main__":
    unittest.main()
