"""What can be seen at once of the part of Python that the package keeps to, rule by rule."""

import ast
import builtins
import pathlib
import re
import unittest

PACKAGE = pathlib.Path(__file__).resolve().parent.parent / "lutesounds"
FILES = sorted(path for path in PACKAGE.rglob("*") if "__pycache__" not in path.parts)
OWN_NAMES = set("""len range enumerate zip min max sum abs sorted reversed int str bool list tuple dict set frozenset
    isinstance ord repr any all divmod Exception ValueError TypeError KeyError IndexError LookupError ZeroDivisionError
    ArithmeticError OverflowError RuntimeError NotImplementedError AttributeError StopIteration""".split())
OWN_METHODS = set("""append clear copy count endswith extend find get index insert isalnum isalpha isdigit islower
    isspace isupper items join keys ljust lower lstrip partition pop remove replace reverse rfind rjust rpartition
    rsplit rstrip setdefault split splitlines startswith strip update upper values zfill bit_length""".split())
UNUSED_NAMES = set("""register mro elements open input version_info with_traceback add_note attrgetter breakpoint
    compile delattr dir eval exec exit gc getattr globals hasattr help id importlib locals methodcaller os quit setattr
    super type vars sys format format_map chr""".split())
UNUSED_WORDS = re.compile(r"\b(type|typing|typing_extensions|enum|Enum|IntEnum|StrEnum|Flag|IntFlag|Generic|Protocol|"
                          r"ABC|ABCMeta|namedtuple|NamedTuple|TypedDict|TYPE_CHECKING|abstractmethod)\b|"
                          r"dataclass|overload|contextmanager")
NODES = set("""Module Expr Assign AugAssign If While For Return Break Continue Pass Raise Try ExceptHandler FunctionDef
    ClassDef arguments arg Lambda ImportFrom alias Constant List Tuple Dict Set Name Load Store Attribute Subscript
    Slice Call keyword BinOp UnaryOp BoolOp Compare IfExp ListComp comprehension JoinedStr FormattedValue Add Sub Mult
    FloorDiv Mod Pow BitAnd BitOr BitXor LShift RShift Invert USub UAdd Not And Or Eq NotEq Lt LtE Gt GtE In NotIn Is
    IsNot""".split())
TWO_UNDERSCORES = {"__init__", "__eq__", "__repr__", "__str__", "__len__"}


def parsed():
    return [(path, ast.parse(path.read_text("ascii"))) for path in FILES if path.suffix == ".py"]


def nodes(*kinds):
    return [(path, node) for path, tree in parsed() for node in ast.walk(tree) if isinstance(node, kinds)]


class Files(unittest.TestCase):
    def test_l1_l14_files(self):
        self.assertIn(PACKAGE / "__init__.py", FILES)
        for path in FILES:
            self.assertRegex(path.name, r"^([a-z][a-z0-9]*|__init__)\.py$")
            self.assertNotIn(path.stem, dir(builtins))
            self.assertRegex(path.read_text("utf-8"), r"\A[\n -~]*\Z", path)

    def test_l10_sizes(self):
        for path in FILES:
            lines = path.read_text().splitlines()
            self.assertLessEqual(len(lines), 400, path)
            self.assertLessEqual(max(map(len, lines)), 120, path)
        for path, node in nodes(ast.FunctionDef):
            self.assertLessEqual(node.end_lineno - node.lineno + 1, 40, (path, node.name))

    def test_l17_words(self):
        for path in FILES:
            self.assertIsNone(UNUSED_WORDS.search(path.read_text()), path)


class Statements(unittest.TestCase):
    def test_l6_l7_nodes(self):
        for path, node in nodes(ast.AST):
            self.assertIn(type(node).__name__, NODES, (path, getattr(node, "lineno", 0)))

    def test_l2_l16_imports(self):
        for path, node in nodes(ast.ImportFrom):
            self.assertEqual(node.level, 0)
            self.assertTrue((PACKAGE / (node.module.removeprefix("lutesounds.") + ".py")).exists(), node.module)
            for name in node.names:
                self.assertNotEqual(name.name, "*")
                self.assertIsNone(name.asname)
                self.assertRegex((PACKAGE / (node.module.removeprefix("lutesounds.") + ".py")).read_text(),
                                 rf"(?m)^((def|class) {name.name}\b|{name.name} = )")

    def test_imports_are_used_and_stand_in_no_ring(self):
        drawn = {}
        for path, tree in parsed():
            used = {node.id for node in ast.walk(tree) if isinstance(node, ast.Name)}
            imports = [node for node in ast.walk(tree) if isinstance(node, ast.ImportFrom)]
            self.assertLessEqual({name.name for node in imports for name in node.names}, used, path)
            drawn["lutesounds." + path.stem] = {node.module for node in imports}
        while drawn:
            free = [name for name in drawn if not drawn[name] & set(drawn)]
            self.assertTrue(free, drawn)
            for name in free:
                del drawn[name]

    def test_l3_top_of_a_file(self):
        for path, tree in parsed():
            self.assertIsInstance(ast.get_docstring(tree), str, path)
            for node in tree.body[1:]:
                self.assertIsInstance(node, (ast.ImportFrom, ast.FunctionDef, ast.ClassDef, ast.Assign), path)
                if isinstance(node, ast.Assign):
                    ast.literal_eval(node.value)

    def test_l6_one_target_and_no_else_behind_a_loop(self):
        for path, node in nodes(ast.Assign):
            self.assertEqual(len(node.targets), 1, (path, node.lineno))
            self.assertNotIsInstance(node.targets[0], (ast.Tuple, ast.List), (path, node.lineno))
        for path, node in nodes(ast.For, ast.While):
            self.assertEqual(node.orelse, [], (path, node.lineno))
        for path, node in nodes(ast.Try):
            self.assertEqual(node.finalbody, [], (path, node.lineno))

    def test_l4_l5_plain_defs(self):
        for path, node in nodes(ast.FunctionDef, ast.ClassDef):
            self.assertEqual(node.decorator_list, [], (path, node.name))
        for path, node in nodes(ast.arguments):
            self.assertEqual((node.vararg, node.kwarg, node.kwonlyargs, node.posonlyargs), (None, None, [], []), path)
        for path, node in nodes(ast.ClassDef):
            self.assertLessEqual(len(node.bases), 1)


class Names(unittest.TestCase):
    def test_l8_l17_names_that_are_read(self):
        for path, node in nodes(ast.Name):
            self.assertNotIn(node.id, UNUSED_NAMES, (path, node.lineno))
            if node.id in dir(builtins):
                self.assertIn(node.id, OWN_NAMES, (path, node.lineno))
                self.assertIsInstance(node.ctx, ast.Load, (path, node.lineno))

    def test_l12_l15_names_that_are_given(self):
        for path, tree in parsed():
            taken = {node.name for node in ast.walk(tree) if isinstance(node, ast.ClassDef)}
            taken |= {name.name for node in ast.walk(tree) if isinstance(node, ast.ImportFrom) for name in node.names}
            given = [node.arg for node in ast.walk(tree) if isinstance(node, ast.arg)]
            given += [node.id for node in ast.walk(tree)
                      if isinstance(node, ast.Name) and isinstance(node.ctx, ast.Store)]
            given += [node.name for node in ast.walk(tree) if isinstance(node, ast.ExceptHandler) and node.name]
            for name in given:
                self.assertNotIn(name, taken | set(dir(builtins)), path)
                self.assertRegex(name, r"^[A-Za-z][A-Za-z0-9_]*$")
            tops = [node.targets[0].id for node in tree.body if isinstance(node, ast.Assign)]
            tops += [node.name for node in tree.body if isinstance(node, (ast.FunctionDef, ast.ClassDef))]
            self.assertEqual(len(tops), len(set(tops)), path)

    def test_l25_l26_attributes(self):
        methods = {node.name for path, tree in nodes(ast.ClassDef) for node in tree.body
                   if isinstance(node, ast.FunctionDef)}
        values = {node.attr for path, node in nodes(ast.Attribute) if isinstance(node.ctx, ast.Store)}
        self.assertEqual(methods & values, set())
        python = {name for kind in (str, int, list, dict, set, bytes, tuple) for name in dir(kind)}
        self.assertEqual((methods - TWO_UNDERSCORES) & python, set())
        self.assertEqual(values & python, set())
        for path, node in nodes(ast.Attribute):
            self.assertIn(node.attr, methods | values | OWN_METHODS, (path, node.lineno))

    def test_l20_is(self):
        for path, node in nodes(ast.Compare):
            if any(isinstance(op, (ast.Is, ast.IsNot)) for op in node.ops):
                self.assertIsInstance(node.comparators[0], ast.Constant, (path, node.lineno))
                self.assertIn(node.comparators[0].value, (None, True, False), (path, node.lineno))

    def test_l27_numbers_and_texts(self):
        for path, node in nodes(ast.Constant):
            self.assertIn(type(node.value), (int, str, bool, type(None)), (path, node.lineno))
            self.assertNotIn("%", str(node.value), (path, node.lineno))
        for path, node in nodes(ast.BinOp):
            if isinstance(node.op, ast.Pow):
                self.assertIsInstance(node.right, ast.Constant, (path, node.lineno))
