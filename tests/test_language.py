"""The rules of the language subset, as far as a reading of the files can tell them.

Some rules are kept narrower than they are written: no sets, no generator expressions, no `try`.
"""

import ast
import builtins
import pathlib
import re
import unittest

ROOT = pathlib.Path(__file__).resolve().parent.parent
PACKAGE = ROOT / "arrowsizes"
FILES = sorted(PACKAGE.rglob("*.py"))

STATEMENTS = (
    ast.Module, ast.FunctionDef, ast.ClassDef, ast.ImportFrom, ast.Assign, ast.AugAssign, ast.Return, ast.Raise, ast.If,
    ast.For, ast.While, ast.Expr, ast.Pass, ast.Break, ast.Continue, ast.Assert, ast.With)
EXPRESSIONS = (
    ast.Constant, ast.Name, ast.Attribute, ast.Subscript, ast.Slice, ast.Call, ast.Tuple, ast.List, ast.Dict, ast.ListComp,
    ast.DictComp, ast.BinOp, ast.UnaryOp, ast.BoolOp, ast.Compare, ast.IfExp, ast.JoinedStr, ast.FormattedValue, ast.Yield,
    ast.Starred)
BUILTINS = (
    "len range enumerate zip min max sum abs sorted reversed int str bool list tuple dict isinstance ord repr any all divmod iter "
    "ValueError KeyError IndexError ArithmeticError OverflowError RuntimeError True False None property classmethod").split()
BUILTIN_METHODS = (
    "append clear copy count endswith extend find get index insert items join keys pop remove replace reverse setdefault "
    "split startswith strip update values bit_length").split()
SPECIAL = ("__init__", "__eq__", "__len__", "__str__", "__enter__", "__exit__", "__iter__", "__contains__")
LIBRARY = {"math": ("gcd", "lcm", "isqrt", "comb", "perm", "factorial")}
BARRED_NAMES = (
    "register mro elements open input law version_info with_traceback add_note compile copyright dir eval exec exit gc globals "
    "help id license locals os quit setattr super type vars sys").split()
BARRED_WORDS = (
    "type typing enum Enum IntEnum StrEnum Flag IntFlag Generic Protocol ABC ABCMeta namedtuple NamedTuple TypedDict "
    "TYPE_CHECKING abstractmethod dataclass overload contextmanager").split()


def tree_of(path):
    return ast.parse(path.read_text(encoding="utf-8"))


def module_of(path):
    parts = path.relative_to(ROOT).with_suffix("").parts
    return ".".join(parts[:-1] if parts[-1] == "__init__" else parts)


def top_names(tree):
    """The names that a file binds at module level, its imports left out."""
    names = [node.name for node in tree.body if isinstance(node, (ast.FunctionDef, ast.ClassDef))]
    return names + [node.targets[0].id for node in tree.body if isinstance(node, ast.Assign)]


def imported_names(tree):
    return [alias.name for node in tree.body if isinstance(node, ast.ImportFrom) for alias in node.names]


def without_docstrings(path):
    """The text of a file without comments and docstrings, as Python writes it out."""
    tree = tree_of(path)
    for node in ast.walk(tree):
        if isinstance(node, (ast.Module, ast.ClassDef, ast.FunctionDef)) and ast.get_docstring(node) is not None:
            node.body = node.body[1:] or [ast.Pass()]
    return ast.unparse(tree)


class Language(unittest.TestCase):

    def each(self, kind):
        """All nodes of some kind in all files, with their places."""
        for path in FILES:
            for node in ast.walk(tree_of(path)):
                if isinstance(node, kind):
                    with self.subTest(place=f"{path.name}:{getattr(node, 'lineno', 0)}"):
                        yield node

    def test_files(self):
        self.assertGreater(len(FILES), 10)
        for path in PACKAGE.rglob("*"):
            if "__pycache__" in path.parts:
                continue
            if path.is_dir():
                self.assertTrue((path / "__init__.py").is_file(), path)
                self.assertFalse(path.with_suffix(".py").exists(), path)
            else:
                self.assertRegex(path.name, r"^([a-z][a-z0-9_]*|__init__)\.py$")
                self.assertNotIn(path.stem, dir(builtins))

    def test_characters_and_sizes(self):
        for path in FILES:
            text = path.read_text(encoding="utf-8")
            self.assertTrue(all([mark == "\n" or " " <= mark <= "~" for mark in text]), path)
            lines = text.split("\n")
            self.assertLessEqual(len(lines), 399, path)
            self.assertLessEqual(max([len(line) for line in lines]), 120, path)
        for node in self.each(ast.FunctionDef):
            self.assertLessEqual(node.end_lineno - node.lineno + 1, 40)

    def test_kinds_of_nodes(self):
        for node in self.each((ast.stmt, ast.expr)):
            self.assertIsInstance(node, STATEMENTS + EXPRESSIONS)

    def test_module_level(self):
        for path in FILES:
            body = tree_of(path).body
            ranks = []
            for node in body[1:]:
                self.assertIsInstance(node, (ast.ImportFrom, ast.Assign, ast.FunctionDef, ast.ClassDef), path)
                ranks.append(0 if isinstance(node, ast.ImportFrom) else 1)
                if isinstance(node, ast.Assign):
                    self.assertIsInstance(node.targets[0], ast.Name)
                    self.assertEqual(len(node.targets), 1)
                    self.assertFalse([part for part in ast.walk(node.value) if isinstance(part, (ast.Name, ast.Call))])
            self.assertIsInstance(body[0].value, ast.Constant, path)
            self.assertEqual(ranks, sorted(ranks), path)
            bound = top_names(tree_of(path)) + imported_names(tree_of(path))
            self.assertEqual(len(bound), len(set(bound)), path)

    def test_imports(self):
        trees = {module_of(path): tree_of(path) for path in FILES}
        leads_to = {}
        for name, tree in trees.items():
            leads_to[name] = []
            for node in tree.body:
                if isinstance(node, ast.ImportFrom):
                    self.assertEqual(node.level, 0)
                    told = LIBRARY[node.module] if node.module in LIBRARY else top_names(trees[node.module])
                    for alias in node.names:
                        self.assertIsNone(alias.asname)
                        self.assertIn(alias.name, told, name)
                        used = [part for part in ast.walk(tree) if isinstance(part, ast.Name) and part.id == alias.name]
                        self.assertTrue(used, f"{name} imports {alias.name} and does not use it")
                    if node.module in trees:
                        leads_to[name].append(node.module)
        for _ in trees:
            leads_to = {name: [goal for goal in goals if leads_to[goal]] for name, goals in leads_to.items()}
        self.assertEqual([name for name, goals in leads_to.items() if goals], [])

    def test_library_names_are_only_called(self):
        for path in FILES:
            tree = tree_of(path)
            library = [alias.name for node in tree.body if isinstance(node, ast.ImportFrom) and node.module in LIBRARY for alias in node.names]
            called = [id(node.func) for node in ast.walk(tree) if isinstance(node, ast.Call)]
            for node in ast.walk(tree):
                if isinstance(node, ast.Name) and node.id in library:
                    self.assertIn(id(node), called, path)

    def test_names(self):
        for path in FILES:
            tree = tree_of(path)
            imported = imported_names(tree)
            classes = [node.name for node in tree.body if isinstance(node, ast.ClassDef)]
            for node in ast.walk(tree):
                names = []
                if isinstance(node, ast.Name) and isinstance(node.ctx, ast.Store):
                    names = [node.id]
                if isinstance(node, ast.arg):
                    names = [node.arg]
                for name in names:
                    self.assertNotIn(name, imported + classes, path)
                if isinstance(node, (ast.FunctionDef, ast.ClassDef)) and node.name not in SPECIAL:
                    names = [node.name]
                for name in names:
                    self.assertRegex(name, r"^(_|_?[A-Za-z][A-Za-z0-9_]*)$")
                    self.assertNotIn(name, dir(builtins), path)
                    self.assertNotIn(name, BARRED_NAMES, path)
                if isinstance(node, ast.Name) and isinstance(node.ctx, ast.Load):
                    self.assertNotEqual(node.id, "_", path)
                    if node.id in dir(builtins):
                        self.assertIn(node.id, BUILTINS, path)

    def test_barred_words(self):
        for path in FILES:
            words = re.findall(r"[A-Za-z_]+", without_docstrings(path))
            for word in BARRED_WORDS:
                self.assertNotIn(word, words, path)

    def test_classes(self):
        for node in self.each(ast.ClassDef):
            self.assertEqual(node.decorator_list, [])
            self.assertRegex(node.name, r"^[A-Za-z]")
            for part in node.body:
                self.assertIsInstance(part, (ast.FunctionDef, ast.Expr))
            methods = [part.name for part in node.body if isinstance(part, ast.FunctionDef)]
            self.assertEqual(len(methods), len(set(methods)))
            stored = [part.attr for part in ast.walk(node) if isinstance(part, ast.Attribute) and isinstance(part.ctx, ast.Store)]
            self.assertEqual([name for name in stored if name in methods], [])
            for name in methods:
                self.assertTrue(name in SPECIAL or not name.startswith("__"))

    def test_decorators(self):
        for path in FILES:
            tree = tree_of(path)
            methods = [part for node in tree.body if isinstance(node, ast.ClassDef) for part in node.body]
            for node in ast.walk(tree):
                if isinstance(node, ast.FunctionDef):
                    told = [part.id for part in node.decorator_list]
                    self.assertTrue(told in ([], ["property"], ["classmethod"]))
                    self.assertTrue(not told or node in methods)
                    self.assertTrue(node in methods or node in tree.body)

    def test_properties_have_names_of_their_own(self):
        properties, others = [], []
        for path in FILES:
            for node in ast.walk(tree_of(path)):
                if isinstance(node, ast.ClassDef):
                    for part in node.body:
                        if isinstance(part, ast.FunctionDef):
                            (properties if part.decorator_list and part.decorator_list[0].id == "property" else others).append(part.name)
                if isinstance(node, ast.Attribute) and isinstance(node.ctx, ast.Store):
                    others.append(node.attr)
        self.assertEqual([name for name in properties if name in others + BUILTIN_METHODS], [])

    def test_special_methods(self):
        for node in self.each(ast.FunctionDef):
            returns = [part.value for part in ast.walk(node) if isinstance(part, ast.Return)]
            if node.name == "__init__":
                self.assertEqual(returns, [])
            for value in returns:
                if node.name == "__len__":
                    self.assertEqual(value.func.id, "len")
                if node.name == "__str__":
                    self.assertTrue(isinstance(value, ast.JoinedStr) or value.func.id == "str")
                if node.name == "__eq__":
                    self.assertEqual(value.values[0].func.id, "isinstance")
            if node.name in ("__len__", "__str__", "__eq__"):
                self.assertIsInstance(node.body[-1], ast.Return)

    def test_judges_tell_true_or_false(self):
        judging = (ast.Compare, ast.BoolOp, ast.Call, ast.Constant, ast.UnaryOp)
        for node in self.each(ast.FunctionDef):
            if re.match(r"_?(is|are|has)_", node.name):
                for part in ast.walk(node):
                    if isinstance(part, ast.Return):
                        self.assertIsInstance(part.value, judging)

    def test_calls(self):
        methods = []
        for path in FILES:
            for node in ast.walk(tree_of(path)):
                if isinstance(node, ast.ClassDef):
                    methods += [part.name for part in node.body if isinstance(part, ast.FunctionDef)]
        for node in self.each(ast.Call):
            self.assertIsInstance(node.func, (ast.Name, ast.Attribute))
            if isinstance(node.func, ast.Attribute):
                self.assertIn(node.func.attr, methods + BUILTIN_METHODS)
            told = [keyword.arg for keyword in node.keywords]
            self.assertIn(told, ([], ["reverse"], ["default"]))
            if isinstance(node.func, ast.Name) and node.func.id in ("zip", "enumerate", "reversed", "range"):
                self.assertFalse([part for part in node.args if isinstance(part, ast.Starred)])

    def test_iterated_at_once(self):
        for path in FILES:
            tree = tree_of(path)
            at_once = []
            for node in ast.walk(tree):
                if isinstance(node, (ast.For, ast.comprehension)):
                    at_once.append(id(node.iter))
                if isinstance(node, ast.Call) and isinstance(node.func, ast.Name) and node.args:
                    if node.func.id in ("list", "tuple", "dict", "sorted", "sum", "any", "all", "enumerate", "zip", "len", "reversed"):
                        at_once.append(id(node.args[0]))
            for node in ast.walk(tree):
                if isinstance(node, ast.Call):
                    word = node.func.id if isinstance(node.func, ast.Name) else node.func.attr
                    if word in ("zip", "enumerate", "reversed", "range", "items", "keys", "values", "turns", "spaces", "all_kinds"):
                        self.assertIn(id(node), at_once, f"{path}:{node.lineno}")

    def test_numbers_and_strings(self):
        for node in self.each(ast.Constant):
            self.assertNotIsInstance(node.value, (float, complex))
            if isinstance(node.value, str):
                self.assertNotIn("%", node.value)
                self.assertNotIn("\\", node.value)
        for node in self.each(ast.BinOp):
            self.assertNotIsInstance(node.op, (ast.Div, ast.MatMult))
            if isinstance(node.op, ast.Pow):
                self.assertIsInstance(node.right, ast.Constant)
                self.assertLessEqual(node.right.value, 64)

    def test_comparisons_by_is(self):
        for node in self.each(ast.Compare):
            for operator, other in zip(node.ops, node.comparators):
                if isinstance(operator, (ast.Is, ast.IsNot)):
                    self.assertIn(getattr(other, "value", 0), (None, True, False))

    def test_generators_have_names_of_their_own(self):
        generators, others = [], []
        for path in FILES:
            for node in ast.walk(tree_of(path)):
                if isinstance(node, ast.FunctionDef):
                    yields = [part for part in ast.walk(node) if isinstance(part, ast.Yield)]
                    (generators if yields else others).append(node.name)
        self.assertEqual(len(generators), len(set(generators)))
        self.assertEqual([name for name in generators if name in others + BUILTIN_METHODS], [])
        for node in self.each(ast.Call):
            if isinstance(node.func, ast.Name):
                self.assertNotIn(node.func.id, generators)

    def test_blocks(self):
        """Blocks stand over a call, and what is done behind them is told by plain assignments alone."""
        for node in self.each(ast.With):
            self.assertEqual([type(item.context_expr) for item in node.items], [ast.Call])
        for node in self.each(ast.FunctionDef):
            if node.name == "__exit__":
                for part in node.body:
                    self.assertIsInstance(part, ast.Assign)
                    self.assertIsInstance(part.value, ast.Attribute)

    def test_iterated_objects(self):
        called = []
        for node in self.each(ast.FunctionDef):
            calls = [part for part in ast.walk(node) if isinstance(part, ast.Call) and isinstance(part.func, ast.Name) and part.func.id == "iter"]
            if node.name == "__iter__":
                self.assertEqual(len(node.body), 1)
                self.assertEqual(node.body[0].value, calls[0])
                self.assertIsInstance(calls[0].args[0], ast.Attribute)
                called.append(node.name)
            else:
                self.assertEqual(calls, [])
        self.assertEqual(called, ["__iter__"])

    def test_changes_in_place(self):
        for node in self.each(ast.AugAssign):
            self.assertIsInstance(node.op, (ast.Add, ast.Sub))

    def test_no_annotations(self):
        for node in self.each(ast.FunctionDef):
            self.assertIsNone(node.returns)
            for part in node.args.posonlyargs + node.args.args + node.args.kwonlyargs:
                self.assertIsNone(part.annotation)
            for part in node.args.defaults:
                self.assertIsInstance(part, ast.Constant)

    def test_raised_on_the_spot(self):
        for node in self.each(ast.Raise):
            self.assertIsInstance(node.exc, ast.Call)
            self.assertIsInstance(node.exc.func, ast.Name)
            self.assertIsNone(node.cause)


if __name__ == "__main__":
    unittest.main()
