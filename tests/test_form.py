"""The form of the package's files, as far as a look at them can tell it (rules L1 to L28 of the language)."""

import ast
import pathlib
import re
import unittest

PACKAGE = pathlib.Path(__file__).resolve().parent.parent / "judgebench"

OWN_NAMES = set(
    "len range enumerate zip min max sum abs sorted reversed int str bool list tuple dict set frozenset isinstance ord "
    "repr any all divmod Exception ValueError TypeError KeyError IndexError LookupError ZeroDivisionError "
    "ArithmeticError OverflowError RuntimeError NotImplementedError StopIteration".split()
)
METHODS = set(
    "append clear copy count endswith extend find get index insert isalnum isalpha isdigit islower isspace isupper "
    "items join keys ljust lower lstrip partition pop remove replace reverse rfind rjust rpartition rsplit rstrip "
    "setdefault split splitlines startswith strip update upper values zfill bit_length".split()
)
CHANGES = set("append clear extend insert pop remove reverse setdefault update".split())
WALKED = set("zip enumerate reversed range".split())
WALKERS = set("list tuple dict sorted sum any all enumerate zip min max".split())
NODES = (
    ast.Module, ast.FunctionDef, ast.ClassDef, ast.arguments, ast.arg, ast.Lambda, ast.Assign, ast.AugAssign, ast.If,
    ast.While, ast.For, ast.Return, ast.Break, ast.Continue, ast.Pass, ast.Raise, ast.Try, ast.ExceptHandler, ast.Expr,
    ast.Constant, ast.List, ast.Tuple, ast.Dict, ast.Set, ast.BinOp, ast.UnaryOp, ast.BoolOp, ast.Compare, ast.IfExp,
    ast.Call, ast.Attribute, ast.Subscript, ast.Slice, ast.ListComp, ast.comprehension, ast.JoinedStr,
    ast.FormattedValue, ast.Name, ast.ImportFrom, ast.alias, ast.keyword, ast.expr_context, ast.operator,
    ast.unaryop, ast.boolop, ast.cmpop,
)
UNUSED_ANYWHERE = set("register mro elements open input version_info with_traceback add_note format format_map".split())
NO_WORDS = re.compile(
    r"\b(type|typing|typing_extensions|enum|Enum|IntEnum|StrEnum|Flag|IntFlag|Generic|Protocol|ABC|ABCMeta|namedtuple|"
    r"NamedTuple|TypedDict|TYPE_CHECKING|abstractmethod)\b|dataclass|overload|contextmanager"
)
PYTHONS_OWN = set(dir(__builtins__) if not isinstance(__builtins__, dict) else __builtins__)


def top_names(tree):
    names = []
    for node in tree.body:
        if isinstance(node, (ast.FunctionDef, ast.ClassDef)):
            names.append(node.name)
        elif isinstance(node, ast.Assign):
            names.extend(target.id for target in node.targets)
        elif isinstance(node, ast.ImportFrom):
            names.extend(alias.name for alias in node.names)
    return names


def called(node):
    """The name of what is called, where it is a plain name."""
    return node.func.id if isinstance(node, ast.Call) and isinstance(node.func, ast.Name) else None


def plain_value(node):
    return isinstance(node, ast.Constant) or (
        isinstance(node, ast.UnaryOp) and isinstance(node.op, ast.USub) and isinstance(node.operand, ast.Constant)
    )


class Form(unittest.TestCase):
    def setUp(self):
        self.files = sorted(path for path in PACKAGE.rglob("*.py"))
        self.sources = {path: path.read_text(encoding="utf-8") for path in self.files}
        self.trees = {path: ast.parse(source) for path, source in self.sources.items()}

    def nodes(self):
        for path, tree in self.trees.items():
            for node in ast.walk(tree):
                yield "%s:%s" % (path.name, getattr(node, "lineno", 0)), node

    def test_files(self):
        found = {path.name for path in PACKAGE.iterdir() if path.name != "__pycache__"}
        self.assertEqual(found, {path.name for path in self.files})
        self.assertIn("__init__.py", found)
        for name in found - {"__init__.py", "__main__.py"}:
            self.assertRegex(name, r"\A[a-z][a-z0-9_]*\.py\Z")
            self.assertNotIn(name[:-3], PYTHONS_OWN | {"test", "tests", "testing", "site", "conftest"})
            self.assertFalse(name.startswith("test_"))

    def test_signs_and_sizes(self):
        for path, source in self.sources.items():
            self.assertRegex(source, r"\A[\n -~]*\Z", path)
            rows = source.split("\n")
            self.assertLessEqual(len(rows), 400, path)
            self.assertLessEqual(max(len(row) for row in rows), 120, path)
            self.assertIsNone(NO_WORDS.search(source), path)
        for place, node in self.nodes():
            if isinstance(node, ast.FunctionDef):
                self.assertLessEqual(node.end_lineno - node.lineno + 1, 40, place)

    def test_kinds_of_statements_and_expressions(self):
        for place, node in self.nodes():
            self.assertIsInstance(node, NODES, place)
            self.assertNotIsInstance(node, (ast.Div, ast.MatMult), place)
            if isinstance(node, (ast.For, ast.While)):
                self.assertEqual(node.orelse, [], place)
            if isinstance(node, ast.Try):
                self.assertEqual(node.finalbody, [], place)
            if isinstance(node, ast.Assign):
                self.assertEqual(len(node.targets), 1, place)
            if isinstance(node, ast.ListComp):
                self.assertEqual(len(node.generators), 1, place)
                self.assertLessEqual(len(node.generators[0].ifs), 1, place)
            if isinstance(node, ast.Expr) and not isinstance(node.value, ast.Call):
                self.assertIsInstance(node.value, ast.Constant, place)
                self.assertIsInstance(node.value.value, str, place)
            if isinstance(node, ast.BinOp) and isinstance(node.op, ast.Pow):
                self.assertIsInstance(node.right, ast.Constant, place)
            if isinstance(node, ast.Constant):
                self.assertIn(type(node.value), (int, str, bool, type(None)), place)
                self.assertNotIn("%", str(node.value), place)
            if isinstance(node, ast.Compare) and any(isinstance(op, (ast.Is, ast.IsNot)) for op in node.ops):
                self.assertIsInstance(node.comparators[0], ast.Constant, place)

    def test_functions_and_classes(self):
        for place, node in self.nodes():
            if isinstance(node, (ast.FunctionDef, ast.ClassDef)):
                self.assertEqual(node.decorator_list, [], place)
            if isinstance(node, ast.FunctionDef):
                self.assertIsNone(node.returns, place)
            if isinstance(node, ast.arguments):
                self.assertIsNone(node.vararg, place)
                self.assertIsNone(node.kwarg, place)
                self.assertEqual(node.kwonlyargs + node.posonlyargs, [], place)
                self.assertTrue(all(plain_value(value) for value in node.defaults), place)
                self.assertTrue(all(argument.annotation is None for argument in node.args), place)
            if isinstance(node, ast.ClassDef):
                self.assertLessEqual(len(node.bases), 1, place)
                self.assertEqual(node.keywords, [], place)
                for part in node.body[1 if ast.get_docstring(node) else 0:]:
                    self.assertIsInstance(part, ast.FunctionDef, place)

    def test_the_top_of_each_file(self):
        for path, tree in self.trees.items():
            names = top_names(tree)
            self.assertEqual(len(names), len(set(names)), path)
            self.assertTrue(ast.get_docstring(tree), path)
            for node in tree.body[1:]:
                self.assertIsInstance(node, (ast.ImportFrom, ast.FunctionDef, ast.ClassDef, ast.Assign), path)
                if isinstance(node, ast.Assign):
                    value = node.value
                    inner = [value]
                    if isinstance(value, (ast.List, ast.Tuple)):
                        inner = value.elts
                    if isinstance(value, ast.Dict):
                        inner = value.keys + value.values
                    self.assertTrue(all(plain_value(one) for one in inner), "%s:%s" % (path, node.lineno))

    def test_imports(self):
        draws = {}
        for path, tree in self.trees.items():
            draws[path.stem] = []
            for node in ast.walk(tree):
                if not isinstance(node, ast.ImportFrom):
                    continue
                self.assertIn(node, tree.body, path)
                self.assertEqual(node.level, 0, path)
                package, dot, stem = node.module.partition(".")
                self.assertEqual(package, "judgebench", path)
                other = self.trees[PACKAGE / (stem + ".py")]
                defined = [n for n in top_names(other)]
                drawn = [alias.name for n in other.body if isinstance(n, ast.ImportFrom) for alias in n.names]
                for alias in node.names:
                    self.assertIsNone(alias.asname, path)
                    self.assertIn(alias.name, defined, path)
                    self.assertNotIn(alias.name, drawn, path)
                draws[path.stem].append(stem)
        self.assertEqual(draws["__init__"], [])
        # Files that draw from nothing any more are taken away until none is left: so there is no circle.
        while draws:
            done = [stem for stem in draws if not set(draws[stem]) & set(draws)]
            self.assertTrue(done, draws)
            draws = {stem: draws[stem] for stem in draws if stem not in done}

    def test_every_import_is_used(self):
        for path, tree in self.trees.items():
            used = {node.id for node in ast.walk(tree) if isinstance(node, ast.Name)}
            for node in tree.body:
                if isinstance(node, ast.ImportFrom):
                    for alias in node.names:
                        self.assertIn(alias.name, used, path)

    def test_names(self):
        for path, tree in self.trees.items():
            bound = set(top_names(tree))
            kept = {n.name for n in tree.body if isinstance(n, ast.ClassDef)}
            kept |= {alias.name for n in tree.body if isinstance(n, ast.ImportFrom) for alias in n.names}
            local = set()
            for node in ast.walk(tree):
                if isinstance(node, ast.arg):
                    local.add(node.arg)
                elif isinstance(node, ast.Name) and isinstance(node.ctx, ast.Store):
                    local.add(node.id)
            tops = {target.id for n in tree.body if isinstance(n, ast.Assign) for target in n.targets}
            self.assertEqual(local & kept, set(), path)
            self.assertEqual((local | bound) & PYTHONS_OWN, set(), path)
            for name in local | bound:
                self.assertRegex(name, r"\A[A-Za-z][A-Za-z0-9_]*\Z", path)
                self.assertNotIn(name, UNUSED_ANYWHERE, path)
            for node in ast.walk(tree):
                if isinstance(node, ast.Name) and node.id not in local | bound:
                    self.assertIn(node.id, OWN_NAMES, "%s:%s" % (path, node.lineno))
                if isinstance(node, ast.FunctionDef):
                    for inner in ast.walk(node):
                        if isinstance(inner, ast.Name) and isinstance(inner.ctx, ast.Store):
                            self.assertNotIn(inner.id, tops, "%s:%s" % (path, inner.lineno))

    def test_methods_and_values(self):
        methods, values = set(), set()
        for place, node in self.nodes():
            if isinstance(node, ast.ClassDef):
                methods |= {part.name for part in node.body if isinstance(part, ast.FunctionDef)}
            if isinstance(node, ast.Attribute) and isinstance(node.ctx, ast.Store):
                values.add(node.attr)
                self.assertIsInstance(node.value, ast.Name, place)
        self.assertEqual(methods & values, set())
        pythons = set(dir(str) + dir(int) + dir(list) + dir(dict) + dir(set) + dir(bytes))
        self.assertEqual(values & pythons, set())
        for place, node in self.nodes():
            if isinstance(node, ast.Call) and isinstance(node.func, ast.Attribute):
                self.assertIn(node.func.attr, METHODS | (methods - pythons), place)
            elif isinstance(node, ast.Attribute):
                self.assertNotIn(node.attr, UNUSED_ANYWHERE, place)

    def test_walked_at_once(self):
        for path, tree in self.trees.items():
            allowed = set()
            for node in ast.walk(tree):
                if isinstance(node, (ast.For, ast.comprehension)):
                    allowed.add(node.iter)
                if called(node) in WALKERS and node.args:
                    allowed.update(node.args if called(node) == "zip" else node.args[:1])
            for node in ast.walk(tree):
                view = isinstance(node, ast.Call) and isinstance(node.func, ast.Attribute)
                view = view and node.func.attr in ("items", "keys", "values")
                if called(node) in WALKED or view:
                    self.assertIn(node, allowed, "%s:%s" % (path, node.lineno))

    def test_what_a_loop_walks_is_not_changed(self):
        for place, node in self.nodes():
            if not isinstance(node, ast.For):
                continue
            walked = {inner.id for inner in ast.walk(node.iter) if isinstance(inner, ast.Name)} - OWN_NAMES
            for inner in [one for part in node.body for one in ast.walk(part)]:
                if isinstance(inner, ast.Subscript) and isinstance(inner.ctx, ast.Store):
                    self.assertFalse(isinstance(inner.value, ast.Name) and inner.value.id in walked, place)
                if isinstance(inner, ast.Attribute) and inner.attr in CHANGES:
                    self.assertFalse(isinstance(inner.value, ast.Name) and inner.value.id in walked, place)

    def test_sets_are_not_kept(self):
        for path, tree in self.trees.items():
            allowed = set()
            for node in ast.walk(tree):
                if called(node) in ("sorted", "len"):
                    allowed.update(node.args)
                if isinstance(node, ast.Compare):
                    allowed.update(node.comparators)
            for node in ast.walk(tree):
                if called(node) in ("set", "frozenset") or isinstance(node, ast.Set):
                    self.assertIn(node, allowed, "%s:%s" % (path, node.lineno))

    def test_values_of_the_top_are_only_read(self):
        for path, tree in self.trees.items():
            tops = {
                node.targets[0].id for node in tree.body
                if isinstance(node, ast.Assign) and isinstance(node.value, (ast.List, ast.Dict))
            }
            read = set()
            for node in ast.walk(tree):
                if isinstance(node, ast.Subscript) and isinstance(node.ctx, ast.Load):
                    read.add(node.value)
                if isinstance(node, ast.Compare):
                    read.update(node.comparators)
                if isinstance(node, (ast.For, ast.comprehension)):
                    read.add(node.iter)
            for node in ast.walk(tree):
                if isinstance(node, ast.Name) and isinstance(node.ctx, ast.Load) and node.id in tops:
                    self.assertIn(node, read, "%s:%s" % (path, node.lineno))

    def test_keywords_of_calls(self):
        allowed = {"sorted": {"key", "reverse"}, "min": {"key", "default"}, "max": {"key", "default"},
                   "sum": {"start"}, "enumerate": {"start"}, "zip": {"strict"}}
        for place, node in self.nodes():
            if isinstance(node, ast.Call) and called(node) in OWN_NAMES | {None}:
                self.assertLessEqual({keyword.arg for keyword in node.keywords}, allowed.get(called(node), set()), place)


if __name__ == "__main__":
    unittest.main()
