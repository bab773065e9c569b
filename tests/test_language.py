"""The package keeps to the small part of Python that it's written in, as far as its form shows."""

import ast
import builtins
import pathlib
import re
import unittest

PACKAGE = pathlib.Path(__file__).resolve().parent.parent / "regrown"

BUILT_IN = """len range enumerate zip min max sum abs sorted reversed int str bool list tuple dict set frozenset
isinstance ord repr any all divmod Exception ValueError TypeError KeyError IndexError LookupError ZeroDivisionError
ArithmeticError OverflowError RuntimeError NotImplementedError AttributeError StopIteration""".split()

METHODS = """append clear copy count endswith extend find get index insert isalnum isalpha isdigit islower isspace
isupper items join keys ljust lower lstrip partition pop remove replace reverse rfind rjust rpartition rsplit rstrip
setdefault split splitlines startswith strip update upper values zfill bit_length""".split()

KINDS = """Module Expr Constant FunctionDef arguments arg ClassDef ImportFrom alias Assign AugAssign If While For
Return Break Continue Pass Raise Try ExceptHandler Call keyword Name Attribute Subscript Slice List Tuple Dict Set
ListComp comprehension Lambda BinOp UnaryOp BoolOp Compare IfExp JoinedStr FormattedValue Load Store
Add Sub Mult FloorDiv Mod Pow BitAnd BitOr BitXor LShift RShift Invert Not USub And Or
Eq NotEq Lt LtE Gt GtE Is IsNot In NotIn""".split()

TOP = (ast.Expr, ast.ImportFrom, ast.FunctionDef, ast.ClassDef, ast.Assign)

WORDS = """type typing typing_extensions enum Enum IntEnum StrEnum Flag IntFlag Generic Protocol ABC ABCMeta namedtuple
NamedTuple TypedDict TYPE_CHECKING abstractmethod register mro elements open input version_info with_traceback
add_note dataclass overload contextmanager""".split()

DOUBLE = ("__init__", "__eq__", "__repr__", "__str__", "__len__")

# What is walked on the spot, and the calls that walk their first argument.
WALKED = ("zip", "enumerate", "reversed", "range", "items", "keys", "values")
WALKERS = ("list", "tuple", "dict", "sorted", "sum", "any", "all", "enumerate", "zip", "min", "max")


def files():
    return sorted(path for path in PACKAGE.rglob("*") if path.is_file() and "__pycache__" not in path.parts)


def trees():
    return [(path, ast.parse(path.read_text())) for path in files()]


def nodes(kind):
    return [(path, node) for path, tree in trees() for node in ast.walk(tree) if isinstance(node, kind)]


class Files(unittest.TestCase):
    def test_there_are_plain_files_alone(self):
        self.assertIn(PACKAGE / "__init__.py", files())
        for path in files():
            self.assertRegex(path.name, r"^([a-z][a-z0-9_]*|__init__)\.py$")

    def test_signs_and_sizes(self):
        for path in files():
            lines = path.read_text().split("\n")
            self.assertLessEqual(len(lines), 399, path)
            for line in lines:
                self.assertRegex(line, r"^[ -~]{0,120}$", path)

    def test_words_that_stand_nowhere(self):
        for path in files():
            found = re.findall(r"\w+", path.read_text())
            self.assertEqual([word for word in found if word in WORDS], [], path)


class Forms(unittest.TestCase):
    def test_kinds_of_statements_and_values(self):
        for path, node in nodes(ast.AST):
            place = (path, getattr(node, "lineno", 0))
            self.assertIn(node.__class__.__name__, KINDS, place)
            if isinstance(node, ast.Constant):
                self.assertIn(node.value.__class__, (int, str, bool, None.__class__), place)
            if isinstance(node, ast.Assign):
                self.assertEqual(len(node.targets), 1, place)
            if isinstance(node, (ast.For, ast.While)):
                self.assertEqual(node.orelse, [], place)
            if isinstance(node, ast.ListComp):
                self.assertEqual(len(node.generators), 1, place)
                self.assertLessEqual(len(node.generators[0].ifs), 1, place)

    def test_the_top_of_a_file(self):
        for path, tree in trees():
            self.assertTrue(ast.get_docstring(tree), path)
            for node in tree.body:
                self.assertIsInstance(node, TOP, (path, node.lineno))
                if isinstance(node, ast.Assign):
                    ast.literal_eval(node.value)

    def test_imports(self):
        for path, node in nodes(ast.ImportFrom):
            self.assertEqual(node.level, 0, path)
            self.assertTrue(node.module.startswith("regrown."), path)
            self.assertNotIn("*", [alias.name for alias in node.names], path)

    def test_functions(self):
        for path, node in nodes(ast.FunctionDef):
            self.assertLessEqual(node.end_lineno - node.lineno + 1, 40, (path, node.name))
            self.assertEqual(node.decorator_list, [], (path, node.name))
            self.assertIsNone(node.args.vararg or node.args.kwarg or (node.args.kwonlyargs or None))

    def test_names(self):
        for path, node in nodes((ast.Name, ast.arg, ast.Attribute, ast.FunctionDef, ast.ClassDef)):
            name = [getattr(node, field) for field in ("id", "arg", "attr", "name") if hasattr(node, field)][0]
            place = (path, node.lineno, name)
            if name not in DOUBLE:
                self.assertRegex(name, r"^[A-Za-z][A-Za-z0-9_]*$", place)
            if isinstance(node, ast.Name) and hasattr(builtins, name):
                self.assertIn(name, BUILT_IN, place)
                self.assertIsInstance(node.ctx, ast.Load, place)
            if isinstance(node, ast.arg):
                self.assertFalse(hasattr(builtins, name), place)

    def test_methods(self):
        own = []
        for path, node in nodes(ast.ClassDef):
            own += [inner.name for inner in node.body if isinstance(inner, ast.FunctionDef)]
        for path, node in nodes(ast.Call):
            if isinstance(node.func, ast.Attribute):
                self.assertIn(node.func.attr, METHODS + own, (path, node.lineno))
        for path, node in nodes(ast.Attribute):
            if isinstance(node.ctx, ast.Store):
                self.assertNotIn(node.attr, METHODS + own, (path, node.lineno))


class BetweenFiles(unittest.TestCase):
    def test_names_of_a_files_top_are_bound_once(self):
        for path, tree in trees():
            bound = []
            for node in tree.body:
                if isinstance(node, (ast.FunctionDef, ast.ClassDef)):
                    bound.append(node.name)
                elif isinstance(node, ast.Assign):
                    bound.append(node.targets[0].id)
                elif isinstance(node, ast.ImportFrom):
                    bound += [alias.name for alias in node.names if alias.asname is None]
            self.assertEqual(sorted(set(bound)), sorted(bound), path)
            local = [node.arg for node in ast.walk(tree) if isinstance(node, ast.arg)]
            local += [node.id for top in tree.body if not isinstance(top, ast.Assign) for node in ast.walk(top)
                      if isinstance(node, ast.Name) and isinstance(node.ctx, ast.Store)]
            self.assertEqual(sorted(set(local) & set(bound)), [], path)

    def test_imports_are_from_the_file_that_defines_them(self):
        defined = {}
        for path, tree in trees():
            here = defined.setdefault("regrown." + path.stem, [])
            here += [node.name for node in tree.body if isinstance(node, (ast.FunctionDef, ast.ClassDef))]
            here += [node.targets[0].id for node in tree.body if isinstance(node, ast.Assign)]
        for path, node in nodes(ast.ImportFrom):
            for alias in node.names:
                self.assertIn(alias.name, defined[node.module], path)

    def test_no_two_files_draw_from_one_another(self):
        draws = {"regrown." + path.stem: [] for path in files()}
        for path, node in nodes(ast.ImportFrom):
            draws["regrown." + path.stem].append(node.module)
        while draws:
            free = [name for name in draws if not set(draws[name]) & set(draws)]
            self.assertTrue(free, draws)
            draws = {name: drawn for name, drawn in draws.items() if name not in free}


class Details(unittest.TestCase):
    def test_what_is_walked_on_the_spot(self):
        for path, tree in trees():
            spots = []
            for node in ast.walk(tree):
                if isinstance(node, (ast.For, ast.comprehension)):
                    spots.append(node.iter)
                if isinstance(node, ast.Call) and isinstance(node.func, ast.Name) and node.func.id in WALKERS:
                    spots += node.args if node.func.id in ("enumerate", "zip") else node.args[:1]
            for node in ast.walk(tree):
                if isinstance(node, ast.Call):
                    name = node.func.id if isinstance(node.func, ast.Name) else node.func.attr
                    self.assertTrue(name not in WALKED or node in spots, (path, node.lineno))

    def test_sets_are_not_kept(self):
        for path, tree in trees():
            held = []
            for node in ast.walk(tree):
                if isinstance(node, ast.Call) and isinstance(node.func, ast.Name) and node.func.id in ("sorted", "len"):
                    held += [inner for inner in ast.walk(node.args[0])]
                if isinstance(node, ast.Compare):
                    held += node.comparators + [node.left]
            for node in ast.walk(tree):
                if isinstance(node, ast.Call) and isinstance(node.func, ast.Name):
                    self.assertTrue(node.func.id not in ("set", "frozenset") or node in held, (path, node.lineno))

    def test_is_stands_beside_none_true_and_false(self):
        for path, node in nodes(ast.Compare):
            for sign, value in zip(node.ops, node.comparators):
                if isinstance(sign, (ast.Is, ast.IsNot)):
                    self.assertIsInstance(value, ast.Constant, (path, node.lineno))
                    self.assertIn(value.value, (None, True, False), (path, node.lineno))

    def test_no_annotations(self):
        for path, node in nodes(ast.FunctionDef):
            self.assertIsNone(node.returns, (path, node.name))
        for path, node in nodes(ast.arg):
            self.assertIsNone(node.annotation, (path, node.arg))

    def test_powers_have_a_written_exponent(self):
        for path, node in nodes(ast.BinOp):
            if isinstance(node.op, ast.Pow):
                self.assertIn(node.right.value, range(65), (path, node.lineno))

    def test_a_files_lists_and_dicts_hold_none_themselves(self):
        for path, tree in trees():
            for node in tree.body:
                if isinstance(node, ast.Assign):
                    inner = [held for held in ast.walk(node.value) if held != node.value]
                    self.assertFalse([held for held in inner if isinstance(held, (ast.List, ast.Dict))], path)


if __name__ == "__main__":
    unittest.main()
