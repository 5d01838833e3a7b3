"""The package keeps to the part of Python that it may use: what can be seen in its files, rule by rule."""

import ast
import builtins
import pathlib
import re
import unittest

PACKAGE = pathlib.Path(__file__).resolve().parent.parent / "halfseendesk"
PYTHONS_OWN = set(dir(builtins))
ERRORS = set("""Exception ValueError TypeError KeyError IndexError LookupError ZeroDivisionError ArithmeticError
    OverflowError RuntimeError NotImplementedError AttributeError StopIteration""".split())
ALLOWED_OWN = ERRORS | set("""len range enumerate zip min max sum abs sorted reversed int str bool list tuple dict set
    frozenset isinstance ord repr any all divmod""".split())
METHODS = set("""append clear copy count endswith extend find get index insert isalnum isalpha isdigit islower isspace
    isupper items join keys ljust lower lstrip partition pop remove replace reverse rfind rjust rpartition rsplit
    rstrip setdefault split splitlines startswith strip update upper values zfill bit_length""".split())
UNUSED_NAMES = set("""register mro elements open input version_info with_traceback add_note attrgetter breakpoint
    builtins compile copyright credits delattr dir eval exec exit gc getattr globals hasattr help id importlib license
    locals methodcaller os quit setattr super type vars sys format format_map chr""".split())
UNUSED_WORDS = re.compile(
    r"\b(type|typing|typing_extensions|enum|Enum|IntEnum|StrEnum|Flag|IntFlag|Generic|Protocol|ABC|ABCMeta|namedtuple"
    r"|NamedTuple|TypedDict|TYPE_CHECKING|abstractmethod)\b|dataclass|overload|contextmanager")
STATEMENTS = (ast.Assign, ast.AugAssign, ast.If, ast.While, ast.For, ast.Return, ast.Break, ast.Continue, ast.Pass,
              ast.Raise, ast.Try, ast.Expr, ast.FunctionDef, ast.ClassDef, ast.ImportFrom)
EXPRESSIONS = (ast.Constant, ast.List, ast.Tuple, ast.Dict, ast.BinOp, ast.UnaryOp, ast.BoolOp, ast.Compare, ast.IfExp,
               ast.Call, ast.Attribute, ast.Subscript, ast.Slice, ast.ListComp, ast.Name, ast.Lambda, ast.JoinedStr,
               ast.FormattedValue)
WALKED_AT_ONCE = ("zip", "enumerate", "reversed", "range")
FILE_NAMES_TAKEN = PYTHONS_OWN | {"test", "tests", "testing", "site", "conftest", "sitecustomize", "usercustomize"}


def files():
    return sorted(PACKAGE.rglob("*.py"))


def trees():
    return [(path, ast.parse(path.read_text("ascii"))) for path in files()]


def nodes(kinds):
    return [(path, node) for path, tree in trees() for node in ast.walk(tree) if isinstance(node, kinds)]


def bound_at_top(tree):
    names = []
    for node in tree.body:
        if isinstance(node, ast.Assign):
            names += [target.id for target in node.targets]
        elif isinstance(node, (ast.FunctionDef, ast.ClassDef)):
            names.append(node.name)
        elif isinstance(node, ast.ImportFrom):
            names += [alias.name for alias in node.names]
    return names


def imported(tree):
    return [alias.name for node in tree.body if isinstance(node, ast.ImportFrom) for alias in node.names]


def module_file(name):
    return PACKAGE.parent.joinpath(*name.split(".")).with_suffix(".py")


class Files(unittest.TestCase):
    def test_l1_l14_files(self):
        for path in PACKAGE.rglob("*"):
            if "__pycache__" in path.parts:
                continue
            self.assertTrue(path.suffix == ".py" and path.parent == PACKAGE, path)
            self.assertRegex(path.stem, "^(__init__|[a-z][a-z0-9_]*)$")
            self.assertNotIn(path.stem, FILE_NAMES_TAKEN)
            self.assertFalse(path.stem.startswith("test_"))
        self.assertIn(PACKAGE / "__init__.py", files())

    def test_l10_l14_l17_l27_sizes_signs_and_words(self):
        for path in files():
            text = path.read_bytes().decode("latin-1")
            self.assertRegex(text, r"^[ -~\n]*$")
            self.assertIsNone(UNUSED_WORDS.search(text), path)
            self.assertLessEqual(len(text.splitlines()), 400)
            self.assertLessEqual(max(len(line) for line in text.splitlines()), 120)
        for path, node in nodes(ast.FunctionDef):
            self.assertLessEqual(node.end_lineno - node.lineno + 1, 40, (path, node.name))
        for path, node in nodes(ast.Constant):
            if isinstance(node.value, str):
                self.assertNotIn("%", node.value)

    def test_l2_l16_imports(self):
        for path, tree in trees():
            for node in ast.walk(tree):
                self.assertNotIsInstance(node, ast.Import)
                if isinstance(node, ast.ImportFrom):
                    self.assertIn(node, tree.body)
                    self.assertEqual(node.level, 0)
                    self.assertRegex(node.module, "^halfseendesk[.]")
                    other = ast.parse(module_file(node.module).read_text())
                    for alias in node.names:
                        self.assertIsNone(alias.asname)
                        self.assertIn(alias.name, set(bound_at_top(other)) - set(imported(other)))

    def test_l16_no_two_files_draw_from_one_another(self):
        draws = {path.stem: [node.module.split(".")[1] for node in tree.body if isinstance(node, ast.ImportFrom)]
                 for path, tree in trees()}
        left = dict(draws)
        while left:
            free = [name for name, others in left.items() if not any(other in left for other in others)]
            self.assertTrue(free, left)
            for name in free:
                del left[name]

    def test_l3_l15_the_top_of_a_file(self):
        for path, tree in trees():
            self.assertIsInstance(ast.get_docstring(tree), str)
            for node in tree.body[1:]:
                self.assertIsInstance(node, (ast.ImportFrom, ast.Assign, ast.FunctionDef, ast.ClassDef))
                if isinstance(node, ast.Assign):
                    value = ast.literal_eval(node.value)
                    self.assertIsInstance(value, (int, str, tuple), (path, node.lineno))
            names = bound_at_top(tree)
            self.assertEqual(len(names), len(set(names)), path)

    def test_l16_what_is_drawn_is_used(self):
        for path, tree in trees():
            used = {node.id for node in ast.walk(tree) if isinstance(node, ast.Name)}
            for name in imported(tree):
                self.assertIn(name, used, path)


class Statements(unittest.TestCase):
    def test_l6_statements(self):
        for path, node in nodes(ast.stmt):
            self.assertIsInstance(node, STATEMENTS, (path, node.lineno))
            if isinstance(node, ast.Assign):
                self.assertEqual(len(node.targets), 1)
                self.assertIsInstance(node.targets[0], (ast.Name, ast.Attribute, ast.Subscript))
            if isinstance(node, (ast.For, ast.While)):
                self.assertEqual(node.orelse, [])
            if isinstance(node, ast.Expr):
                top = isinstance(node.value, ast.Constant) and node.lineno == 1
                self.assertTrue(top or isinstance(node.value, ast.Call), (path, node.lineno))
            if isinstance(node, ast.Try):
                self.assertEqual(node.finalbody, [])

    def test_l4_l21_functions(self):
        for path, node in nodes((ast.FunctionDef, ast.Lambda)):
            arguments = node.args
            self.assertEqual((arguments.vararg, arguments.kwarg, arguments.kwonlyargs, arguments.posonlyargs),
                             (None, None, [], []))
            self.assertEqual([argument for argument in arguments.args if argument.annotation], [])
            if isinstance(node, ast.FunctionDef):
                self.assertEqual((node.decorator_list, node.returns), ([], None))

    def test_l5_l18_l28_classes(self):
        for path, tree in trees():
            for node in ast.walk(tree):
                if isinstance(node, ast.ClassDef):
                    self.assertIn(node, tree.body)
                    self.assertLessEqual(len(node.bases), 1)
                    self.assertEqual((node.keywords, node.decorator_list), ([], []))
                    for inner in node.body:
                        self.assertIsInstance(inner, (ast.FunctionDef, ast.Pass))

    def test_l19_errors(self):
        own = {node.name for path, node in nodes(ast.ClassDef) if node.bases}
        for path, node in nodes(ast.ExceptHandler):
            self.assertIn(node.type.id, own)
        for path, node in nodes(ast.Raise):
            self.assertIsInstance(node.exc, ast.Call)
            self.assertIn(node.exc.func.id, own)


class Expressions(unittest.TestCase):
    def test_l7_expressions(self):
        for path, node in nodes(ast.expr):
            self.assertIsInstance(node, EXPRESSIONS, (path, node.lineno))
            if isinstance(node, ast.Constant):
                self.assertIsInstance(node.value, (int, str, type(None)))
            if isinstance(node, ast.ListComp):
                self.assertEqual(len(node.generators), 1)
                self.assertLessEqual(len(node.generators[0].ifs), 1)
            if isinstance(node, (ast.BinOp, ast.AugAssign)):
                self.assertNotIsInstance(node.op, (ast.Div, ast.MatMult, ast.Pow))

    def test_l8_l17_names(self):
        for path, node in nodes(ast.Name):
            self.assertNotIn(node.id, UNUSED_NAMES)
            if node.id in PYTHONS_OWN:
                self.assertIn(node.id, ALLOWED_OWN, path)
                self.assertIsInstance(node.ctx, ast.Load)
        for path, node in nodes(ast.Attribute):
            self.assertNotIn(node.attr, UNUSED_NAMES)

    def test_l12_l15_names_that_are_bound(self):
        for path, tree in trees():
            taken = set(imported(tree)) | {node.name for node in tree.body if isinstance(node, ast.ClassDef)}
            for function in [node for node in ast.walk(tree) if isinstance(node, ast.FunctionDef)]:
                bound = [node.arg for node in ast.walk(function) if isinstance(node, ast.arg)]
                bound += [node.id for node in ast.walk(function)
                          if isinstance(node, ast.Name) and isinstance(node.ctx, ast.Store)]
                bound += [node.name for node in ast.walk(function) if isinstance(node, ast.ExceptHandler) and node.name]
                for name in bound:
                    self.assertRegex(name, "^[A-Za-z][A-Za-z0-9_]*$")
                    self.assertNotIn(name, taken | PYTHONS_OWN)
            for name in bound_at_top(tree):
                self.assertRegex(name, "^[A-Za-z][A-Za-z0-9_]*$")
                self.assertNotIn(name, PYTHONS_OWN)

    def test_l20_is(self):
        for path, node in nodes(ast.Compare):
            for operator, right in zip(node.ops, node.comparators):
                if isinstance(operator, (ast.Is, ast.IsNot)):
                    self.assertIsInstance(right, ast.Constant)

    def test_l22_l23_walked_at_once(self):
        for path, tree in trees():
            at_once = []
            for node in ast.walk(tree):
                if isinstance(node, (ast.For, ast.comprehension)):
                    at_once.append(node.iter)
                if isinstance(node, ast.Call):
                    at_once += node.args[:1]
            for node in ast.walk(tree):
                if isinstance(node, ast.Call) and isinstance(node.func, ast.Name):
                    self.assertEqual(node.keywords, [])
                    if node.func.id in WALKED_AT_ONCE:
                        self.assertIn(node, at_once, (path, node.lineno))

    def test_l25_methods(self):
        for path, node in nodes(ast.Call):
            if isinstance(node.func, ast.Attribute):
                base = isinstance(node.func.value, ast.Name) and node.func.value.id in ERRORS
                self.assertTrue(node.func.attr in METHODS or base and node.func.attr == "__init__", path)


if __name__ == "__main__":
    unittest.main()
