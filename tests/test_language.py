"""The package's files against the rules of the small part of Python that they keep to, as far as a walk sees them."""

import ast
import builtins
import pathlib
import re
import unittest

PACKAGE = pathlib.Path(__file__).resolve().parent.parent / "arraydesk"
OWN_NAMES = set((
    "len range enumerate zip min max sum abs sorted reversed int str bool list tuple dict set frozenset isinstance ord "
    "repr any all divmod Exception ValueError TypeError KeyError IndexError LookupError ZeroDivisionError "
    "ArithmeticError OverflowError RuntimeError NotImplementedError AttributeError StopIteration"
).split())
OWN_METHODS = set((
    "append clear copy count endswith extend find get index insert isalnum isalpha isdigit islower isspace isupper items "
    "join keys ljust lower lstrip partition pop remove replace reverse rfind rjust rpartition rsplit rstrip setdefault "
    "split splitlines startswith strip update upper values zfill bit_length"
).split())
TAKEN = set(dir("")) | set(dir(0)) | set(dir([])) | set(dir({})) | set(dir(set())) | set(dir(b""))
UNUSED = set((
    "register mro elements open input version_info with_traceback add_note attrgetter breakpoint builtins compile "
    "copyright credits delattr dir eval exec exit gc getattr globals hasattr help id importlib license locals "
    "methodcaller os quit setattr super type vars sys format format_map"
).split())
WORDS = re.compile(
    r"\b(type|typing|typing_extensions|enum|Enum|IntEnum|StrEnum|Flag|IntFlag|Generic|Protocol|ABC|ABCMeta|namedtuple|"
    r"NamedTuple|TypedDict|TYPE_CHECKING|abstractmethod)\b|dataclass|overload|contextmanager"
)
NODES = (
    ast.Module, ast.Expr, ast.Constant, ast.ImportFrom, ast.alias, ast.FunctionDef, ast.arguments, ast.arg, ast.ClassDef,
    ast.Assign, ast.AugAssign, ast.If, ast.While, ast.For, ast.Return, ast.Break, ast.Continue, ast.Pass, ast.Raise,
    ast.Try, ast.ExceptHandler, ast.Name, ast.Load, ast.Store, ast.List, ast.Tuple, ast.Dict, ast.BinOp, ast.UnaryOp,
    ast.BoolOp, ast.Compare, ast.IfExp, ast.Call, ast.keyword, ast.Attribute, ast.Subscript, ast.Slice, ast.ListComp,
    ast.comprehension, ast.Lambda, ast.JoinedStr, ast.FormattedValue, ast.boolop, ast.unaryop, ast.cmpop,
    ast.Add, ast.Sub, ast.Mult, ast.FloorDiv, ast.Mod, ast.Pow, ast.BitAnd, ast.BitOr, ast.BitXor, ast.LShift, ast.RShift,
)


def is_plain(node):
    if isinstance(node, ast.Constant):
        return node.value is None or isinstance(node.value, (int, str))
    if isinstance(node, ast.UnaryOp):
        return isinstance(node.op, ast.USub) and is_plain(node.operand)
    if isinstance(node, (ast.List, ast.Tuple)):
        return all(is_plain(part) for part in node.elts)
    if isinstance(node, ast.Dict):
        return all(is_plain(part) for part in node.keys + node.values)
    return False


def top_names(tree):
    names = []
    for node in tree.body:
        if isinstance(node, (ast.FunctionDef, ast.ClassDef)):
            names.append(node.name)
        elif isinstance(node, ast.Assign):
            names.append(node.targets[0].id)
    return names


def bound_names(tree):
    """Every name that is given within a file: names, parameters, functions, classes."""
    for node in ast.walk(tree):
        if isinstance(node, ast.Name) and isinstance(node.ctx, ast.Store):
            yield node.id
        elif isinstance(node, ast.arg):
            yield node.arg
        elif isinstance(node, (ast.FunctionDef, ast.ClassDef)):
            yield node.name


class Language(unittest.TestCase):
    @classmethod
    def setUpClass(cls):
        cls.texts = {path.stem: path.read_text(encoding="utf-8") for path in sorted(PACKAGE.glob("*.py"))}
        cls.trees = {name: ast.parse(text) for name, text in cls.texts.items()}

    def nodes(self, *kinds):
        for name, tree in self.trees.items():
            for node in ast.walk(tree):
                if isinstance(node, kinds):
                    yield name, node

    def test_files(self):
        for path in PACKAGE.iterdir():
            if path.name == "__pycache__":
                continue
            self.assertRegex(path.name, r"^([a-z][a-z0-9_]*|__init__|__main__)\.py$")
            self.assertNotIn(path.stem, dir(builtins))
            self.assertNotRegex(path.stem, r"^(test.*|site|conftest|sitecustomize|usercustomize)$")
        self.assertIn("__init__", self.texts)
        self.assertIn("desk", self.texts)

    def test_sizes_and_signs(self):
        for name, text in self.texts.items():
            self.assertRegex(text, r"^[\n -~]*$", name)
            self.assertLessEqual(len(text.splitlines()), 400, name)
            self.assertLessEqual(max(len(line) for line in text.splitlines()), 120, name)
            self.assertIsNone(WORDS.search(text), name)
        for name, node in self.nodes(ast.FunctionDef):
            self.assertLessEqual(node.end_lineno - node.lineno + 1, 40, (name, node.name))

    def test_top_of_each_file(self):
        for name, tree in self.trees.items():
            for place, node in enumerate(tree.body):
                if isinstance(node, ast.Expr):
                    self.assertTrue(place == 0 and isinstance(node.value, ast.Constant), name)
                elif isinstance(node, ast.Assign):
                    self.assertTrue(is_plain(node.value), (name, node.lineno))
                else:
                    self.assertIsInstance(node, (ast.ImportFrom, ast.FunctionDef, ast.ClassDef), (name, node.lineno))
            names = top_names(tree)
            self.assertEqual(len(names), len(set(names)), name)

    def test_imports(self):
        drawn = {name: [] for name in self.trees}
        for name, node in self.nodes(ast.ImportFrom):
            self.assertIn(node, self.trees[name].body)
            self.assertEqual(node.level, 0)
            package, module = node.module.split(".")
            self.assertEqual(package, "arraydesk")
            drawn[name].append(module)
            for alias in node.names:
                self.assertIsNone(alias.asname)
                self.assertIn(alias.name, top_names(self.trees[module]), (name, alias.name))
        self.assertEqual(drawn["__init__"], [])
        left = dict(drawn)
        while left:
            free = [name for name in left if not set(left[name]) & set(left)]
            self.assertTrue(free, "files draw from one another: " + ", ".join(left))
            for name in free:
                del left[name]

    def test_only_known_forms(self):
        for name, node in self.nodes(ast.AST):
            where = (name, getattr(node, "lineno", 0), ast.dump(node)[:80])
            self.assertIsInstance(node, NODES, where)
            if isinstance(node, ast.Constant):
                self.assertNotIsInstance(node.value, (float, complex, bytes), where)
            elif isinstance(node, ast.Assign):
                self.assertEqual(len(node.targets), 1, where)
                self.assertNotIsInstance(node.targets[0], (ast.Tuple, ast.List), where)
            elif isinstance(node, (ast.For, ast.While)):
                self.assertEqual(node.orelse, [], where)
            elif isinstance(node, ast.ListComp):
                self.assertEqual(len(node.generators), 1, where)
                self.assertLessEqual(len(node.generators[0].ifs), 1, where)
            elif isinstance(node, ast.Pow):
                self.fail(where)

    def test_functions_and_classes(self):
        for name, node in self.nodes(ast.FunctionDef):
            where = (name, node.name)
            self.assertEqual(node.decorator_list, [], where)
            self.assertEqual(node.args.posonlyargs + node.args.kwonlyargs, [], where)
            self.assertIsNone(node.args.vararg, where)
            self.assertIsNone(node.args.kwarg, where)
            self.assertTrue(all(is_plain(default) for default in node.args.defaults), where)
        for name, node in self.nodes(ast.ClassDef):
            self.assertIn(node, self.trees[name].body)
            self.assertEqual(node.decorator_list + node.keywords, [], node.name)
            for part in node.body:
                self.assertTrue(isinstance(part, ast.FunctionDef) or isinstance(part.value, ast.Constant), node.name)

    def test_names(self):
        for name, tree in self.trees.items():
            imported = [alias.name for node in tree.body if isinstance(node, ast.ImportFrom) for alias in node.names]
            classes = [node.name for node in tree.body if isinstance(node, ast.ClassDef)]
            local = [node.id for node in ast.walk(tree) if isinstance(node, ast.Name) and isinstance(node.ctx, ast.Store)]
            local += [node.arg for node in ast.walk(tree) if isinstance(node, ast.arg)]
            for given in local:
                self.assertNotIn(given, imported + classes, name)
            bound = set(bound_names(tree))
            for given in bound - {"__init__", "__eq__", "__repr__", "__str__", "__len__"}:
                self.assertRegex(given, r"^[A-Za-z][A-Za-z0-9_]*$", name)
                self.assertNotIn(given, dir(builtins), name)
                self.assertNotIn(given, UNUSED, name)
            for node in ast.walk(tree):
                if isinstance(node, ast.Name) and isinstance(node.ctx, ast.Load):
                    self.assertIn(node.id, bound | set(imported) | OWN_NAMES, (name, node.lineno))

    def test_methods_and_values(self):
        methods = [part.name for name, node in self.nodes(ast.ClassDef) for part in node.body
                   if isinstance(part, ast.FunctionDef)]
        values = [node.attr for name, node in self.nodes(ast.Attribute) if isinstance(node.ctx, ast.Store)]
        for value in values:
            self.assertNotIn(value, methods)
        for given in set(methods + values) - {"__init__"}:
            self.assertNotIn(given, TAKEN | UNUSED)
        for name, node in self.nodes(ast.Attribute):
            self.assertIn(node.attr, set(methods + values) | OWN_METHODS, (name, node.lineno))

    def test_no_annotations_and_no_sets(self):
        for name, node in self.nodes(ast.arg, ast.FunctionDef):
            self.assertIsNone(node.annotation if isinstance(node, ast.arg) else node.returns, (name, node.lineno))
        for name, node in self.nodes(ast.Name):
            self.assertNotIn(node.id, ("set", "frozenset"), (name, node.lineno))

    def test_own_functions_are_called_and_walked_at_once(self):
        called = [node.func for name, node in self.nodes(ast.Call)]
        walked = [node.iter for name, node in self.nodes(ast.For, ast.comprehension)]
        for name, node in self.nodes(ast.Call):
            if isinstance(node.func, ast.Name) and node.func.id in ("list", "sorted", "sum", "zip", "enumerate"):
                walked += node.args
            if isinstance(node.func, ast.Attribute):
                self.assertEqual(node.keywords, [], (name, node.lineno))
        for name, node in self.nodes(ast.Name):
            if node.id in OWN_NAMES:
                self.assertIn(node, called, (name, node.lineno))
        for name, node in self.nodes(ast.Call):
            if isinstance(node.func, ast.Name) and node.func.id in ("zip", "enumerate", "reversed", "range"):
                self.assertIn(node, walked, (name, node.lineno))
        for name, node in self.nodes(ast.Attribute):
            if node.attr in OWN_METHODS:
                self.assertIn(node, called, (name, node.lineno))

    def test_lists_and_dicts_of_the_top_are_only_read(self):
        for name, tree in self.trees.items():
            kept = [node.targets[0].id for node in tree.body
                    if isinstance(node, ast.Assign) and isinstance(node.value, (ast.List, ast.Tuple, ast.Dict))]
            read = [node.value for node in ast.walk(tree)
                    if isinstance(node, ast.Subscript) and isinstance(node.ctx, ast.Load)]
            read += [node.args[0] for node in ast.walk(tree)
                     if isinstance(node, ast.Call) and isinstance(node.func, ast.Name) and node.func.id == "len"]
            for node in ast.walk(tree):
                if isinstance(node, ast.Name) and isinstance(node.ctx, ast.Load) and node.id in kept:
                    self.assertIn(node, read, (name, node.lineno))

    def test_texts_and_escapes(self):
        for name, text in self.texts.items():
            self.assertIsNone(re.search(r"""\\[^nt\\'"]""", text), name)
        for name, node in self.nodes(ast.Constant):
            if isinstance(node.value, str):
                self.assertNotIn("%", node.value, (name, node.lineno))

    def test_is_stands_beside_none_true_false(self):
        for name, node in self.nodes(ast.Compare):
            for op, right in zip(node.ops, node.comparators):
                if isinstance(op, (ast.Is, ast.IsNot)):
                    self.assertIsInstance(right, ast.Constant, (name, node.lineno))
                    self.assertIn(right.value, (None, True, False), (name, node.lineno))


if __name__ == "__main__":
    unittest.main()
