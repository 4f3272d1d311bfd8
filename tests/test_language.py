"""The package keeps to the part of Python that it may use (rules L1 to L28, as far as a test can see them)."""

import ast
import pathlib
import re
import unittest

PACKAGE = pathlib.Path(__file__).resolve().parent.parent / "framelink"

STATEMENTS = (ast.Assign, ast.AugAssign, ast.If, ast.While, ast.For, ast.Return, ast.Break, ast.Continue, ast.Pass,
              ast.Raise, ast.Try, ast.ExceptHandler, ast.Expr, ast.FunctionDef, ast.ClassDef, ast.ImportFrom)
EXPRESSIONS = (ast.Constant, ast.List, ast.Tuple, ast.Dict, ast.BinOp, ast.BoolOp, ast.UnaryOp, ast.Compare,
               ast.IfExp, ast.Call, ast.Attribute, ast.Subscript, ast.Slice, ast.Name, ast.ListComp,
               ast.comprehension, ast.JoinedStr, ast.FormattedValue, ast.Lambda, ast.keyword)
PARTS = (ast.Module, ast.arguments, ast.arg, ast.alias, ast.expr_context, ast.boolop, ast.operator, ast.unaryop,
         ast.cmpop)
NO_OPERATORS = (ast.Div, ast.MatMult)

CALLED = set("len range enumerate zip min max sum abs sorted reversed int str bool list tuple dict set frozenset "
             "isinstance ord repr any all divmod".split())
ERRORS = set("Exception ValueError TypeError KeyError IndexError LookupError ZeroDivisionError ArithmeticError "
             "OverflowError RuntimeError NotImplementedError AttributeError StopIteration".split())
METHODS = set("append clear copy count endswith extend find get index insert isalnum isalpha isdigit islower isspace "
              "isupper items join keys ljust lower lstrip partition pop remove replace reverse rfind rjust rpartition "
              "rsplit rstrip setdefault split splitlines startswith strip update upper values zfill "
              "bit_length".split())
NOWHERE = set("register mro elements open input version_info with_traceback add_note format format_map".split())
NO_WORDS = set("type typing typing_extensions enum Enum IntEnum StrEnum Flag IntFlag Generic Protocol ABC ABCMeta "
               "namedtuple NamedTuple TypedDict TYPE_CHECKING abstractmethod".split())
NO_PARTS = ("dataclass", "overload", "contextmanager")
OWN_OF_PYTHON = set(dir(__builtins__)) if not isinstance(__builtins__, dict) else set(__builtins__)
NATIVE = {name for value in ("", 1, [], {}, set(), b"", ()) for name in dir(value)}
SPECIAL = {"__init__", "__eq__", "__repr__", "__str__", "__len__"}


def files():
    return sorted(path for path in PACKAGE.rglob("*") if "__pycache__" not in path.parts)


def trees():
    return [(path, ast.parse(path.read_text("utf-8"))) for path in files()]


def nodes(kind):
    return [(path, node) for path, tree in trees() for node in ast.walk(tree) if isinstance(node, kind)]


def targets(node):
    return [part.id for part in ast.walk(node) if isinstance(part, ast.Name) and isinstance(part.ctx, ast.Store)]


class Language(unittest.TestCase):
    def where(self, path, node):
        return f"{path.name}:{getattr(node, 'lineno', 0)} {ast.unparse(node)[:80]}"

    def test_files(self):
        self.assertTrue((PACKAGE / "__init__.py").is_file())
        for path in files():
            self.assertRegex(path.name, r"^(__init__|[a-z][a-z0-9_]*)\.py$")
            self.assertNotIn(path.stem, OWN_OF_PYTHON)
            self.assertNotRegex(path.stem, r"^(tests?|testing|test_.*|site|conftest|sitecustomize|usercustomize)$")

    def test_signs_and_sizes(self):
        for path in files():
            text = path.read_text("utf-8")
            self.assertIsNone(re.search(r"[^ -~\n]", text), path.name)
            rows = text.split("\n")
            self.assertLessEqual(len(rows), 400, path.name)
            self.assertLessEqual(max(len(line) for line in rows), 120, path.name)

    def test_words(self):
        for path in files():
            text = path.read_text("utf-8")
            self.assertEqual(set(re.findall(r"\w+", text)) & NO_WORDS, set(), path.name)
            self.assertFalse([part for part in NO_PARTS if part in text], path.name)

    def test_only_the_plain_parts_of_the_language(self):
        for path, node in nodes(ast.AST):
            self.assertIsInstance(node, STATEMENTS + EXPRESSIONS + PARTS, path.name)
            self.assertNotIsInstance(node, NO_OPERATORS, path.name)

    def test_statements(self):
        for path, node in nodes((ast.Assign, ast.For, ast.While, ast.Try, ast.Expr)):
            where = self.where(path, node)
            if isinstance(node, ast.Assign):
                self.assertEqual(len(node.targets), 1, where)
            if isinstance(node, (ast.For, ast.While)):
                self.assertEqual(node.orelse, [], where)
            if isinstance(node, ast.Try):
                self.assertEqual(node.finalbody, [], where)
            if isinstance(node, ast.Expr):
                self.assertIsInstance(node.value, (ast.Call, ast.Constant), where)

    def test_values(self):
        for path, node in nodes((ast.Constant, ast.ListComp, ast.Compare, ast.BinOp)):
            where = self.where(path, node)
            if isinstance(node, ast.Constant):
                self.assertIn(type(node.value), (int, str, bool, type(None)), where)
                self.assertNotIn("%", node.value if isinstance(node.value, str) else "", where)
            if isinstance(node, ast.ListComp):
                self.assertEqual(len(node.generators), 1, where)
                self.assertLessEqual(len(node.generators[0].ifs), 1, where)
            if isinstance(node, ast.Compare) and any(isinstance(op, (ast.Is, ast.IsNot)) for op in node.ops):
                self.assertIn(ast.unparse(node.comparators[-1]), ("None", "True", "False"), where)
            if isinstance(node, ast.BinOp) and isinstance(node.op, ast.Pow):
                self.assertIn(getattr(node.right, "value", None), range(65), where)

    def test_functions(self):
        for path, node in nodes((ast.FunctionDef, ast.Lambda)):
            where = self.where(path, node)
            given = node.args
            self.assertFalse(given.vararg or given.kwarg or given.kwonlyargs or given.posonlyargs, where)
            if isinstance(node, ast.FunctionDef):
                self.assertEqual(node.decorator_list, [], where)
                self.assertLessEqual(node.end_lineno - node.lineno + 1, 40, where)
                self.assertIsNone(node.returns, where)
                self.assertFalse([part for part in given.args if part.annotation], where)

    def test_classes(self):
        for path, node in nodes(ast.ClassDef):
            where = self.where(path, node)
            self.assertEqual((node.decorator_list, node.keywords), ([], []), where)
            self.assertLessEqual(len(node.bases), 1, where)
            names = [part.name for part in node.body if isinstance(part, ast.FunctionDef)]
            self.assertEqual(len(names), len(set(names)), where)
            for part in node.body:
                if not isinstance(part, ast.FunctionDef):
                    self.assertIsInstance(getattr(part, "value", None), ast.Constant, where)

    def test_the_top_of_a_module(self):
        for path, tree in trees():
            self.assertIsNotNone(ast.get_docstring(tree), path.name)
            bound = []
            for node in tree.body:
                self.assertIsInstance(
                    node, (ast.Expr, ast.ImportFrom, ast.FunctionDef, ast.ClassDef, ast.Assign), path.name)
                if isinstance(node, ast.Assign):
                    ast.literal_eval(node.value)
                    bound += targets(node)
                if isinstance(node, (ast.FunctionDef, ast.ClassDef)):
                    bound.append(node.name)
            self.assertEqual(len(bound), len(set(bound)), path.name)

    def test_imports(self):
        for path, node in nodes(ast.ImportFrom):
            where = self.where(path, node)
            self.assertEqual(node.level, 0, where)
            self.assertEqual(node.module.split(".")[0], PACKAGE.name, where)
            source = PACKAGE.joinpath(*node.module.split(".")[1:]).with_suffix(".py")
            defined = set()
            for part in ast.parse(source.read_text("utf-8")).body:
                defined |= {part.name} if isinstance(part, (ast.FunctionDef, ast.ClassDef)) else set(targets(part))
            for name in node.names:
                self.assertIsNone(name.asname, where)
                self.assertIn(name.name, defined, where)

    def test_no_two_files_draw_from_one_another(self):
        draws = {path.stem: set() for path in files()}
        for path, node in nodes(ast.ImportFrom):
            draws[path.stem].add(node.module.split(".")[-1])
        while draws:
            free = [name for name in draws if not draws[name] & set(draws)]
            self.assertTrue(free, draws)
            draws = {name: draws[name] for name in draws if name not in free}

    def test_names(self):
        for path, tree in trees():
            tops = {node.name for node in tree.body if isinstance(node, ast.ClassDef)}
            for node in tree.body:
                tops |= {name.name for name in node.names} if isinstance(node, ast.ImportFrom) else set()
            for node in ast.walk(tree):
                bound = targets(node) if isinstance(node, (ast.Assign, ast.For, ast.comprehension)) else []
                bound += [node.arg] if isinstance(node, ast.arg) else []
                for name in bound:
                    self.assertNotIn(name, OWN_OF_PYTHON | tops, path.name)
                    self.assertRegex(name, r"^[A-Za-z][A-Za-z0-9_]*$", path.name)
                if isinstance(node, ast.FunctionDef):
                    self.assertTrue(node.name in SPECIAL or re.match("^[a-z]", node.name), node.name)
                    self.assertNotIn(node.name, NOWHERE | OWN_OF_PYTHON, path.name)
                if isinstance(node, ast.Name) and node.id in OWN_OF_PYTHON:
                    self.assertIn(node.id, CALLED | ERRORS, self.where(path, node))

    def test_methods_and_values(self):
        own = {node.name for path, node in nodes(ast.FunctionDef)}
        values = {node.attr for path, node in nodes(ast.Attribute) if isinstance(node.ctx, ast.Store)}
        self.assertEqual(own & values, set())
        self.assertEqual(values & NATIVE, set())
        self.assertEqual((own - SPECIAL) & NATIVE, set())
        for path, node in nodes(ast.Attribute):
            where = self.where(path, node)
            self.assertNotIn(node.attr, NOWHERE, where)
            self.assertIn(node.attr, own | values | METHODS, where)

    def test_python_s_own_are_called(self):
        for path, tree in trees():
            called = [node.func for node in ast.walk(tree) if isinstance(node, ast.Call)]
            for node in ast.walk(tree):
                if isinstance(node, ast.Name) and node.id in CALLED:
                    self.assertIn(node, called, self.where(path, node))
                if isinstance(node, ast.Attribute) and node.attr in METHODS:
                    self.assertIn(node, called, self.where(path, node))

    def test_ranges_and_their_like_are_walked_at_once(self):
        lazy = {"range", "zip", "enumerate", "reversed"}
        for path, tree in trees():
            walked = [node.iter for node in ast.walk(tree) if isinstance(node, (ast.For, ast.comprehension))]
            for node in ast.walk(tree):
                if isinstance(node, ast.Call) and isinstance(node.func, ast.Name) and node.func.id in lazy:
                    self.assertIn(node, walked, self.where(path, node))
                self.assertNotIsInstance(node, ast.Set, path.name)

    def test_lists_of_a_top_are_only_read(self):
        for path, tree in trees():
            kept = [name for node in tree.body if isinstance(node, ast.Assign)
                    and isinstance(node.value, (ast.List, ast.Dict)) for name in targets(node)]
            for node in tree.body:
                if isinstance(node, ast.Assign) and isinstance(node.value, (ast.List, ast.Dict)):
                    held = [part for part in ast.walk(node.value) if isinstance(part, (ast.List, ast.Dict))]
                    self.assertEqual(held, [node.value], path.name)
            read = [node.value for node in ast.walk(tree)
                    if isinstance(node, ast.Subscript) and isinstance(node.ctx, ast.Load)]
            for node in ast.walk(tree):
                if isinstance(node, ast.Name) and node.id in kept and isinstance(node.ctx, ast.Load):
                    self.assertIn(node, read, self.where(path, node))
