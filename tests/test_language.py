"""That the package keeps to the part of Python that it is to be written in, as far as a look at its text can tell."""

import ast
import builtins
import pathlib
import re
import unittest

PACKAGE = pathlib.Path(__file__).resolve().parent.parent / "pipebench"

STATEMENTS = (ast.Assign, ast.AugAssign, ast.If, ast.While, ast.For, ast.Return, ast.Break, ast.Continue, ast.Pass,
              ast.Raise, ast.Try, ast.Expr, ast.FunctionDef, ast.ClassDef, ast.ImportFrom)
EXPRESSIONS = (ast.BoolOp, ast.BinOp, ast.UnaryOp, ast.Lambda, ast.IfExp, ast.Dict, ast.Set, ast.ListComp,
               ast.Compare, ast.Call, ast.JoinedStr, ast.FormattedValue, ast.Constant, ast.Attribute, ast.Subscript,
               ast.Name, ast.List, ast.Tuple, ast.Slice)
BUILT_IN = """len range enumerate zip min max sum abs sorted reversed int str bool list tuple dict set frozenset
    isinstance ord repr any all divmod Exception ValueError TypeError KeyError IndexError LookupError
    ZeroDivisionError ArithmeticError OverflowError RuntimeError NotImplementedError AttributeError
    StopIteration""".split()
METHODS = """append clear copy count endswith extend find get index insert isalnum isalpha isdigit islower isspace
    isupper items join keys ljust lower lstrip partition pop remove replace reverse rfind rjust rpartition rsplit
    rstrip setdefault split splitlines startswith strip update upper values zfill bit_length""".split()
NOWHERE = """register mro elements open input version_info with_traceback add_note""".split()
WORDS = """type typing typing_extensions enum Enum IntEnum StrEnum Flag IntFlag Generic Protocol ABC ABCMeta
    namedtuple NamedTuple TypedDict TYPE_CHECKING abstractmethod""".split()
OF_PYTHON = {name for kind in (str, int, list, dict, set, bytes, tuple) for name in dir(kind)}


def trees():
    for path in sorted(PACKAGE.glob("*.py")):
        text = path.read_text(encoding="utf-8")
        yield path.name, text, ast.parse(text)


def nodes():
    for name, text, tree in trees():
        for node in ast.walk(tree):
            yield name, node


class Files(unittest.TestCase):
    def test_nothing_else_lies_in_the_package(self):
        for path in PACKAGE.iterdir():
            if path.name != "__pycache__":
                self.assertRegex(path.name, r"^(__init__|[a-z][a-z0-9_]*)\.py$")
                self.assertNotIn(path.stem, dir(builtins) + WORDS + ["test", "tests", "testing", "site", "conftest"])

    def test_size_and_signs(self):
        for name, text, tree in trees():
            lines = text.split("\n")
            self.assertLessEqual(len(lines), 400, name)
            for line in lines:
                self.assertLessEqual(len(line), 120, (name, line))
                self.assertTrue(all(" " <= sign <= "~" for sign in line), (name, line))
            for node in ast.walk(tree):
                if isinstance(node, ast.FunctionDef):
                    self.assertLessEqual(node.end_lineno - node.lineno + 1, 40, (name, node.name))

    def test_words_that_stand_nowhere(self):
        for name, text, tree in trees():
            for word in WORDS:
                self.assertIsNone(re.search(r"\b%s\b" % word, text), (name, word))
            for word in ("dataclass", "overload", "contextmanager"):
                self.assertNotIn(word, text)


class Form(unittest.TestCase):
    def test_statements_and_expressions(self):
        for name, node in nodes():
            if isinstance(node, ast.stmt):
                self.assertIsInstance(node, STATEMENTS, (name, node.lineno))
            if isinstance(node, ast.expr):
                self.assertIsInstance(node, EXPRESSIONS, (name, node.lineno))
            if isinstance(node, ast.Constant):
                self.assertIn(type(node.value), (int, str, bool, type(None)), (name, node.lineno))
            self.assertNotIsInstance(node, (ast.Div, ast.MatMult, ast.Starred), name)
            if isinstance(node, ast.Expr):
                self.assertIsInstance(node.value, (ast.Call, ast.Constant), (name, node.lineno))
            if isinstance(node, ast.Assign):
                self.assertEqual(len(node.targets), 1, (name, node.lineno))
                self.assertNotIsInstance(node.targets[0], (ast.Tuple, ast.List), (name, node.lineno))
            if isinstance(node, (ast.For, ast.While, ast.Try)):
                self.assertEqual(getattr(node, "finalbody", []), [], name)
            if isinstance(node, (ast.For, ast.While)):
                self.assertEqual(node.orelse, [], name)
            if isinstance(node, ast.ListComp):
                self.assertEqual(len(node.generators), 1, name)
            if isinstance(node, ast.BinOp) and isinstance(node.op, ast.Pow):
                self.assertIsInstance(node.right, ast.Constant, name)

    def test_is_stands_beside_none_true_and_false(self):
        for name, node in nodes():
            if isinstance(node, ast.Compare):
                for op, right in zip(node.ops, node.comparators):
                    if isinstance(op, (ast.Is, ast.IsNot)):
                        self.assertIsInstance(right, ast.Constant, (name, node.lineno))

    def test_imports(self):
        drawn = {}
        for name, text, tree in trees():
            defined = {}
            drawn[name] = []
            for node in ast.walk(tree):
                if isinstance(node, ast.ImportFrom):
                    self.assertIn(node, tree.body)
                    self.assertRegex(node.module, r"^pipebench\.[a-z][a-z_]*$")
                    self.assertEqual(node.level, 0)
                    source = ast.parse((PACKAGE / (node.module[10:] + ".py")).read_text())
                    for one in source.body:
                        if isinstance(one, (ast.FunctionDef, ast.ClassDef)):
                            defined[one.name] = node.module
                        if isinstance(one, ast.Assign):
                            defined[one.targets[0].id] = node.module
                    for alias in node.names:
                        self.assertIsNone(alias.asname)
                        self.assertEqual(defined.get(alias.name), node.module, (name, alias.name))
                    drawn[name].append(node.module[10:] + ".py")
        self.assertEqual(drawn["__init__.py"], [])
        while drawn:
            ends = [name for name, others in drawn.items() if not any(other in drawn for other in others)]
            self.assertNotEqual(ends, [], "files draw from one another")
            drawn = {name: others for name, others in drawn.items() if name not in ends}

    def test_imports_are_used(self):
        for name, text, tree in trees():
            used = {node.id for node in ast.walk(tree) if isinstance(node, ast.Name)}
            for node in tree.body:
                if isinstance(node, ast.ImportFrom):
                    for alias in node.names:
                        self.assertIn(alias.name, used, name)

    def test_top_of_a_file(self):
        for name, text, tree in trees():
            bound = []
            for node in tree.body:
                self.assertIsInstance(node, (ast.Expr, ast.ImportFrom, ast.FunctionDef, ast.ClassDef, ast.Assign))
                if isinstance(node, ast.Expr):
                    self.assertIsInstance(node.value, ast.Constant)
                if isinstance(node, ast.Assign):
                    for part in ast.walk(node.value):
                        self.assertNotIsInstance(part, (ast.Call, ast.BinOp, ast.List, ast.Dict, ast.ListComp), name)
                    bound.append(node.targets[0].id)
                if isinstance(node, (ast.FunctionDef, ast.ClassDef)):
                    bound.append(node.name)
                if isinstance(node, ast.ImportFrom):
                    bound.extend([alias.name for alias in node.names])
            self.assertEqual(len(bound), len(set(bound)), name)

    def test_functions_and_classes(self):
        for name, node in nodes():
            if isinstance(node, (ast.FunctionDef, ast.ClassDef)):
                self.assertEqual(node.decorator_list, [], name)
            if isinstance(node, ast.FunctionDef):
                args = node.args
                self.assertEqual([args.vararg, args.kwarg, args.kwonlyargs, args.posonlyargs], [None, None, [], []])
                self.assertIsNone(node.returns)
                self.assertEqual([arg.annotation for arg in args.args if arg.annotation], [])
            if isinstance(node, ast.ClassDef):
                self.assertLessEqual(len(node.bases), 1)
                self.assertEqual(node.keywords, [])
                for part in node.body:
                    self.assertIsInstance(part, (ast.FunctionDef, ast.Expr))


    def test_walked_at_once(self):
        walkers = ("zip", "enumerate", "reversed", "range")
        takers = ("list", "tuple", "dict", "sorted", "sum", "any", "all", "enumerate", "zip", "min", "max")
        for name, text, tree in trees():
            walked = []
            for node in ast.walk(tree):
                if isinstance(node, (ast.For, ast.comprehension)):
                    walked.append(node.iter)
                if isinstance(node, ast.Call) and isinstance(node.func, ast.Name) and node.func.id in takers:
                    walked.extend(node.args[:1])
            for node in ast.walk(tree):
                if isinstance(node, ast.Call) and isinstance(node.func, ast.Name) and node.func.id in walkers:
                    self.assertIn(node, walked, (name, node.lineno))

    def test_no_keywords_and_no_sets(self):
        for name, node in nodes():
            if isinstance(node, ast.Call):
                self.assertEqual(node.keywords, [], (name, node.lineno))
                self.assertNotIn(getattr(node.func, "id", None), ("set", "frozenset"), (name, node.lineno))
            self.assertNotIsInstance(node, ast.Set, name)

    def test_init_gives_back_nothing(self):
        for name, node in nodes():
            if isinstance(node, ast.FunctionDef) and node.name == "__init__":
                self.assertEqual([part for part in ast.walk(node) if isinstance(part, ast.Return)], [], name)

    def test_a_base_is_begun_by_its_name(self):
        for name, text, tree in trees():
            for part in tree.body:
                for node in ast.walk(part):
                    if isinstance(node, ast.Attribute) and node.attr == "__init__":
                        self.assertIsInstance(part, ast.ClassDef, name)
                        self.assertEqual(node.value.id, part.bases[0].id, name)


class Names(unittest.TestCase):
    def bound(self, node):
        if isinstance(node, ast.Name) and isinstance(node.ctx, ast.Store):
            return [node.id]
        if isinstance(node, ast.arg):
            return [node.arg]
        if isinstance(node, (ast.FunctionDef, ast.ClassDef)):
            return [node.name]
        if isinstance(node, ast.ExceptHandler) and node.name:
            return [node.name]
        return []

    def test_plain_names(self):
        for name, node in nodes():
            for word in self.bound(node):
                if word not in ("__init__", "__eq__", "__repr__", "__str__", "__len__"):
                    self.assertRegex(word, r"^[A-Za-z][A-Za-z0-9_]*$", name)
                    self.assertNotIn(word, dir(builtins), name)
                    self.assertNotIn(word, NOWHERE, name)
            if isinstance(node, ast.Attribute) and node.attr != "__init__":
                self.assertRegex(node.attr, r"^[A-Za-z][A-Za-z0-9_]*$", name)
                self.assertNotIn(node.attr, NOWHERE + ["format", "format_map"], name)

    def test_built_in_names(self):
        for name, node in nodes():
            if isinstance(node, ast.Name) and node.id in dir(builtins):
                self.assertIn(node.id, BUILT_IN, (name, node.lineno))

    def test_no_local_is_called_like_an_import_or_a_class(self):
        for name, text, tree in trees():
            top = []
            for node in tree.body:
                if isinstance(node, ast.ImportFrom):
                    top.extend([alias.name for alias in node.names])
                if isinstance(node, (ast.ClassDef, ast.FunctionDef)):
                    top.append(node.name)
            for node in ast.walk(tree):
                if isinstance(node, (ast.Name, ast.arg)):
                    for word in self.bound(node):
                        self.assertNotIn(word, top, name)

    def test_methods_and_values(self):
        methods, values, called = set(), set(), set()
        for name, node in nodes():
            if isinstance(node, ast.ClassDef):
                methods.update([part.name for part in node.body if isinstance(part, ast.FunctionDef)])
            if isinstance(node, ast.Attribute) and isinstance(node.ctx, ast.Store):
                values.add(node.attr)
            if isinstance(node, ast.Call) and isinstance(node.func, ast.Attribute):
                called.add(node.func.attr)
        self.assertEqual(methods & values, set())
        self.assertEqual(called - methods - set(METHODS), set())
        self.assertEqual(values & OF_PYTHON, set())


if __name__ == "__main__":
    unittest.main()
