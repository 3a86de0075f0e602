"""Holds the package's files against many of LANGUAGE.md's rules.

L11, L13, L19, L22, L23, L26 to L28 are held only in part or not at all.
"""

import ast
import builtins
import re
import unittest
from pathlib import Path

PACKAGE = Path(__file__).resolve().parent.parent / "regionnets"

STATEMENTS = (ast.Assign, ast.AugAssign, ast.If, ast.While, ast.For, ast.Return, ast.Break, ast.Continue, ast.Pass,
              ast.Raise, ast.Try, ast.Expr, ast.FunctionDef, ast.ClassDef, ast.ImportFrom)
EXPRESSIONS = (ast.Constant, ast.Name, ast.List, ast.Tuple, ast.Dict, ast.Set, ast.BinOp, ast.UnaryOp, ast.BoolOp,
               ast.Compare, ast.IfExp, ast.Call, ast.Attribute, ast.Subscript, ast.Slice, ast.ListComp, ast.JoinedStr,
               ast.FormattedValue, ast.Lambda)
OWN_NAMES = """len range enumerate zip min max sum abs sorted reversed int str bool list tuple dict set frozenset
    isinstance ord repr any all divmod Exception ValueError TypeError KeyError IndexError LookupError
    ZeroDivisionError ArithmeticError OverflowError RuntimeError NotImplementedError AttributeError
    StopIteration""".split()
METHODS = """append clear copy count endswith extend find get index insert isalnum isalpha isdigit islower isspace
    isupper items join keys ljust lower lstrip partition pop remove replace reverse rfind rjust rpartition rsplit
    rstrip setdefault split splitlines startswith strip update upper values zfill bit_length""".split()
NOT_NAMES = """register mro elements open input version_info with_traceback add_note attrgetter breakpoint builtins
    compile copyright credits delattr dir eval exec exit gc getattr globals hasattr help id importlib license locals
    methodcaller os quit setattr super type vars sys format format_map""".split()
NOT_WORDS = """type typing typing_extensions enum Enum IntEnum StrEnum Flag IntFlag Generic Protocol ABC ABCMeta
    namedtuple NamedTuple TypedDict TYPE_CHECKING abstractmethod""".split()
NOT_EVEN_WITHIN = ["dataclass", "overload", "contextmanager"]
DUNDERS = ["__init__", "__eq__", "__repr__", "__str__", "__len__"]


def sources():
    return sorted(path for path in PACKAGE.rglob("*.py") if "__pycache__" not in path.parts)


def trees():
    return [(path.name, ast.parse(path.read_text("ascii"))) for path in sources()]


def nodes(kind):
    return [(name, node) for name, tree in trees() for node in ast.walk(tree) if isinstance(node, kind)]


def bound_names(tree):
    """Names that a file binds: by assignment, as parameters, as defs, classes and imports."""
    names = []
    for node in ast.walk(tree):
        if isinstance(node, ast.Name) and isinstance(node.ctx, ast.Store):
            names.append(node.id)
        elif isinstance(node, ast.arg):
            names.append(node.arg)
        elif isinstance(node, (ast.FunctionDef, ast.ClassDef)):
            names.append(node.name)
        elif isinstance(node, ast.alias):
            names.append(node.asname or node.name)
    return names


def imported_files(tree):
    return [node.module for node in ast.walk(tree) if isinstance(node, ast.ImportFrom)]


class Files(unittest.TestCase):
    def test_only_plain_files_lie_in_the_package(self):
        for path in PACKAGE.rglob("*"):
            if "__pycache__" not in path.parts:
                self.assertRegex(path.name, r"^([a-z][a-z0-9_]*|__init__)\.py$")
        self.assertIn(PACKAGE / "__init__.py", sources())

    def test_signs_and_sizes(self):
        for path in sources():
            text = path.read_bytes()
            self.assertTrue(all(sign == 10 or 32 <= sign <= 126 for sign in text), path.name)
            lines = text.decode("ascii").split("\n")
            self.assertLessEqual(len(lines), 400, path.name)
            self.assertLessEqual(max(len(line) for line in lines), 120, path.name)
        for name, node in nodes(ast.FunctionDef):
            self.assertLessEqual(node.end_lineno - node.lineno + 1, 40, (name, node.name))

    def test_words_that_stand_nowhere(self):
        for path in sources():
            text = path.read_text("ascii")
            self.assertEqual([word for word in re.findall(r"\w+", text) if word in NOT_WORDS], [], path.name)
            self.assertEqual([part for part in NOT_EVEN_WITHIN if part in text], [], path.name)


class Imports(unittest.TestCase):
    def test_only_names_from_the_files_that_define_them(self):
        by_module = {f"regionnets.{name[:-3]}": tree for name, tree in trees()}
        for name, node in nodes(ast.ImportFrom):
            self.assertEqual(node.level, 0, name)
            self.assertIn(node.module, by_module, name)
            tops = []
            for top in by_module[node.module].body:
                tops.extend([top.name] if isinstance(top, (ast.FunctionDef, ast.ClassDef)) else [])
                tops.extend([target.id for target in top.targets] if isinstance(top, ast.Assign) else [])
            for alias in node.names:
                self.assertIn(alias.name, tops, name)

    def test_at_the_top_alone(self):
        for name, tree in trees():
            at_top = [node for node in tree.body if isinstance(node, ast.ImportFrom)]
            self.assertEqual(len(imported_files(tree)), len(at_top), name)

    def test_no_two_files_draw_from_one_another(self):
        drawn = {f"regionnets.{name[:-3]}": imported_files(tree) for name, tree in trees()}
        self.assertEqual(drawn["regionnets.__init__"], [])
        for module in drawn:
            reached = []
            waiting = list(drawn[module])
            while waiting:
                other = waiting.pop()
                if other not in reached:
                    reached.append(other)
                    waiting.extend(drawn[other])
            self.assertNotIn(module, reached)


class Code(unittest.TestCase):
    def test_statements(self):
        for name, node in nodes(ast.stmt):
            self.assertIsInstance(node, STATEMENTS, (name, node.lineno))
            if isinstance(node, (ast.For, ast.While)):
                self.assertEqual(node.orelse, [], (name, node.lineno))
            if isinstance(node, ast.Assign):
                self.assertEqual(len(node.targets), 1, (name, node.lineno))
                self.assertNotIsInstance(node.targets[0], ast.Tuple, (name, node.lineno))
            if isinstance(node, ast.Try):
                self.assertEqual(node.finalbody, [], (name, node.lineno))

    def test_a_text_or_a_call_alone_stands_by_itself(self):
        for name, tree in trees():
            alone = [node for node in ast.walk(tree) if isinstance(node, ast.Expr) and node != tree.body[0]]
            self.assertEqual([node.lineno for node in alone if not isinstance(node.value, ast.Call)], [], name)
            self.assertIsNotNone(ast.get_docstring(tree), name)

    def test_expressions(self):
        for name, node in nodes(ast.expr):
            self.assertIsInstance(node, EXPRESSIONS, (name, node.lineno))
            if isinstance(node, ast.Constant):
                self.assertIn(type(node.value), (int, str, bool, type(None)), (name, node.lineno))
            if isinstance(node, ast.BinOp):
                self.assertNotIsInstance(node.op, (ast.Div, ast.MatMult, ast.Pow), (name, node.lineno))
            if isinstance(node, ast.ListComp):
                self.assertEqual(len(node.generators), 1, (name, node.lineno))
                self.assertLessEqual(len(node.generators[0].ifs), 1, (name, node.lineno))
                self.assertFalse(any(isinstance(inner, ast.ListComp) for inner in ast.walk(node.elt)))
            if isinstance(node, ast.FormattedValue):
                self.assertIsInstance(node.value, ast.Name, (name, node.lineno))

    def test_no_set_is_kept(self):
        for name, tree in trees():
            within = [node.args[0] for node in ast.walk(tree) if isinstance(node, ast.Call)
                      and isinstance(node.func, ast.Name) and node.func.id in ("len", "sorted")]
            for node in ast.walk(tree):
                self.assertNotIsInstance(node, ast.Set, name)
                if isinstance(node, ast.Call) and isinstance(node.func, ast.Name) and node.func.id == "set":
                    self.assertIn(node, within, (name, node.lineno))

    def test_functions_and_classes(self):
        for name, node in nodes(ast.FunctionDef):
            rest = node.args.vararg, node.args.kwarg, node.args.kwonlyargs, node.args.posonlyargs, node.decorator_list
            self.assertEqual(rest, (None, None, [], [], []), (name, node.name))
        for name, node in nodes(ast.ClassDef):
            self.assertEqual((node.decorator_list, node.keywords), ([], []), (name, node.name))
            self.assertLessEqual(len(node.bases), 1, (name, node.name))
            for inner in node.body:
                self.assertIsInstance(inner, (ast.FunctionDef, ast.Pass), (name, node.name))

    def test_is_stands_beside_none_true_and_false_alone(self):
        for name, node in nodes(ast.Compare):
            if any(isinstance(sign, (ast.Is, ast.IsNot)) for sign in node.ops):
                self.assertIsInstance(node.comparators[0], ast.Constant, (name, node.lineno))


class Names(unittest.TestCase):
    def test_bound_names_are_plain(self):
        for name, tree in trees():
            for bound in bound_names(tree):
                if bound not in DUNDERS:
                    self.assertRegex(bound, r"^[A-Za-z][A-Za-z0-9_]*$", name)
                    self.assertFalse(hasattr(builtins, bound), (name, bound))
                    self.assertNotIn(bound, NOT_NAMES, name)

    def test_no_local_is_called_like_a_class_or_an_import_of_its_file(self):
        for name, tree in trees():
            bound = bound_names(tree)
            once = [node.name for node in tree.body if isinstance(node, (ast.ClassDef, ast.FunctionDef))]
            for node in tree.body:
                once.extend([alias.name for alias in node.names] if isinstance(node, ast.ImportFrom) else [])
                once.extend([target.id for target in node.targets] if isinstance(node, ast.Assign) else [])
            self.assertEqual([each for each in once if bound.count(each) != 1], [], name)

    def test_only_own_names_and_those_allowed_are_read(self):
        for name, tree in trees():
            known = bound_names(tree) + OWN_NAMES
            for node in ast.walk(tree):
                if isinstance(node, ast.Name):
                    self.assertIn(node.id, known, (name, node.lineno))

    def test_attributes(self):
        classes = [node for name, node in nodes(ast.ClassDef)]
        methods = [inner.name for node in classes for inner in node.body if isinstance(inner, ast.FunctionDef)]
        values = {node.attr for name, node in nodes(ast.Attribute) if isinstance(node.ctx, ast.Store)}
        self.assertEqual(values & set(methods), set())
        taken = {each for kind in (str, int, list, dict, set, bytes) for each in dir(kind)}
        self.assertEqual(values & taken, set())
        for method in methods:
            self.assertTrue(method in DUNDERS or method in METHODS or method not in taken, method)
        for name, node in nodes(ast.Attribute):
            self.assertNotIn(node.attr, NOT_NAMES, (name, node.lineno))
            self.assertIn(node.attr, METHODS + methods + sorted(values), (name, node.lineno))


if __name__ == "__main__":
    unittest.main()
