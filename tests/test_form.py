"""Holds the package's files to the part of Python that the program keeps to, as far as that can be seen."""

import ast
import builtins
import re
import unittest
from pathlib import Path

PACKAGE = Path(__file__).resolve().parent.parent / "momentties"
FILES = sorted(PACKAGE.glob("*.py"))

OWN_NAMES = set("""len range enumerate zip min max sum abs sorted reversed int str bool list tuple dict set frozenset
isinstance ord repr any all divmod Exception ValueError TypeError KeyError IndexError LookupError ZeroDivisionError
ArithmeticError OverflowError RuntimeError NotImplementedError AttributeError StopIteration""".split())
METHODS = set("""append clear copy count endswith extend find get index insert isalnum isalpha isdigit islower isspace
isupper items join keys ljust lower lstrip partition pop remove replace reverse rfind rjust rpartition rsplit rstrip
setdefault split splitlines startswith strip update upper values zfill bit_length""".split())
TWO_UNDERSCORES = {"__init__", "__eq__", "__repr__", "__str__", "__len__"}
BARRED_WORDS = re.compile(r"\b(type|typing|typing_extensions|enum|Enum|IntEnum|StrEnum|Flag|IntFlag|Generic|Protocol"
                          r"|ABC|ABCMeta|namedtuple|NamedTuple|TypedDict|TYPE_CHECKING|abstractmethod)\b"
                          r"|dataclass|overload|contextmanager")
BARRED_NAMES = set("""register mro elements open input version_info with_traceback add_note format format_map sort
attrgetter breakpoint compile delattr dir eval exec exit gc getattr globals hasattr help id importlib license locals
methodcaller os quit setattr super sys type vars chr print""".split())
NODES = tuple(getattr(ast, name) for name in """Module FunctionDef ClassDef arguments arg Return Assign AugAssign For
While If Raise Try ExceptHandler Expr Pass Break Continue ImportFrom alias BoolOp BinOp UnaryOp Lambda IfExp Dict Set
ListComp comprehension Compare Call JoinedStr FormattedValue Constant Attribute Subscript Name List Tuple Slice keyword
expr_context boolop operator unaryop cmpop""".split())
BARRED_NODES = (ast.Div, ast.MatMult)
WALKED = {"zip", "enumerate", "reversed", "range"}
WALKERS = {"list", "tuple", "dict", "sorted", "sum", "any", "all", "enumerate", "zip", "min", "max"}


def trees():
    return [(path, ast.parse(path.read_text(encoding="ascii"))) for path in FILES]


def nodes(kind):
    return [(path, node) for path, tree in trees() for node in ast.walk(tree) if isinstance(node, kind)]


def bound_names(tree):
    found = []
    for node in ast.walk(tree):
        if isinstance(node, ast.Name) and isinstance(node.ctx, ast.Store):
            found.append(node.id)
        elif isinstance(node, (ast.FunctionDef, ast.ClassDef)):
            found.append(node.name)
        elif isinstance(node, (ast.arg, ast.alias)):
            found.append(node.arg if isinstance(node, ast.arg) else node.name)
    return found


class FormTest(unittest.TestCase):
    def test_files(self):
        strangers = [path for path in PACKAGE.iterdir() if path not in FILES and path.name != "__pycache__"]
        self.assertEqual(strangers, [])
        for path in FILES:
            self.assertRegex(path.name, r"\A([a-z][a-z0-9_]*|__init__|__main__)\.py\Z")
            text = path.read_text(encoding="ascii")
            self.assertRegex(text, r"\A[ -~\n]*\Z")
            self.assertIsNone(BARRED_WORDS.search(text), path)
            self.assertLessEqual(len(text.splitlines()), 400)
            self.assertLessEqual(max(map(len, text.splitlines())), 120)

    def test_functions_are_short_and_plain(self):
        for path, node in nodes(ast.FunctionDef):
            self.assertLessEqual(node.end_lineno - node.lineno + 1, 40, (path, node.name))
            self.assertEqual(node.decorator_list, [])
            spec = node.args
            self.assertFalse(spec.vararg or spec.kwarg or spec.kwonlyargs or spec.posonlyargs, node.name)

    def test_only_plain_nodes(self):
        for path, node in nodes(ast.AST):
            where = (path, getattr(node, "lineno", None), type(node).__name__)
            self.assertIsInstance(node, NODES, where)
            self.assertNotIsInstance(node, BARRED_NODES, where)
            if isinstance(node, ast.Assign):
                self.assertEqual(len(node.targets), 1, where)
                self.assertNotIsInstance(node.targets[0], (ast.Tuple, ast.List), where)
            if isinstance(node, ast.Constant):
                self.assertNotIsInstance(node.value, (float, complex, bytes), where)
            if isinstance(node, (ast.For, ast.While)):
                self.assertEqual(node.orelse, [], where)
            if isinstance(node, ast.ListComp):
                self.assertEqual(len(node.generators), 1, where)
                self.assertLessEqual(len(node.generators[0].ifs), 1, where)

    def test_top_of_each_file(self):
        for path, tree in trees():
            self.assertIsNotNone(ast.get_docstring(tree), path)
            allowed = (ast.ImportFrom, ast.FunctionDef, ast.ClassDef, ast.Assign)
            for node in tree.body[1:]:
                self.assertIsInstance(node, allowed, (path, node.lineno))

    def test_imports(self):
        for path, node in nodes(ast.ImportFrom):
            self.assertEqual((node.level, node.module.split(".")[0]), (0, "momentties"), path)
            source = PACKAGE / (node.module.split(".")[1] + ".py")
            defined = [each.name for each in ast.parse(source.read_text()).body
                       if isinstance(each, (ast.FunctionDef, ast.ClassDef))]
            for alias in node.names:
                self.assertIn(alias.name, defined, path)
                self.assertIsNone(alias.asname, path)

    def test_names(self):
        for path, tree in trees():
            bound = bound_names(tree)
            for name in bound:
                self.assertTrue(name in TWO_UNDERSCORES or not name.startswith("_"), (path, name))
                self.assertTrue(name in TWO_UNDERSCORES or not hasattr(builtins, name), (path, name))
                self.assertNotIn(name, BARRED_NAMES, path)
            for node in ast.walk(tree):
                if isinstance(node, ast.Name):
                    self.assertTrue(node.id in bound or node.id in OWN_NAMES, (path, node.lineno, node.id))

    def test_methods_and_values(self):
        methods, values = set(), set()
        for path, node in nodes(ast.ClassDef):
            methods |= {each.name for each in node.body if isinstance(each, ast.FunctionDef)} - TWO_UNDERSCORES
        for path, node in nodes(ast.Attribute):
            self.assertNotIn(node.attr, BARRED_NAMES, path)
            if isinstance(node.ctx, ast.Store):
                values.add(node.attr)
        self.assertEqual(methods & values, set())
        for path, node in nodes(ast.Call):
            if isinstance(node.func, ast.Attribute):
                self.assertIn(node.func.attr, METHODS | methods | {"__init__"}, (path, node.lineno))

    def test_walked_at_once(self):
        for path, tree in trees():
            walked = []
            for node in ast.walk(tree):
                if isinstance(node, (ast.For, ast.comprehension)):
                    walked.append(node.iter)
                elif isinstance(node, ast.Call) and isinstance(node.func, ast.Name) and node.func.id in WALKERS:
                    walked += node.args
            for node in ast.walk(tree):
                if isinstance(node, ast.Call) and isinstance(node.func, ast.Name) and node.func.id in WALKED:
                    self.assertIn(node, walked, (path, node.lineno))

    def test_no_two_files_draw_from_one_another(self):
        draws = {path.stem: set() for path in FILES}
        for path, node in nodes(ast.ImportFrom):
            draws[path.stem].add(node.module.split(".")[1])
        for name in draws:
            reached = set(draws[name])
            while not all(draws[each] <= reached for each in reached):
                reached |= set().union(*[draws[each] for each in reached])
            self.assertNotIn(name, reached)

    def test_names_of_the_top_are_bound_once_and_not_again_below(self):
        for path, tree in trees():
            top, outside = [], []
            for node in tree.body:
                if isinstance(node, ast.ImportFrom):
                    outside += [alias.name for alias in node.names]
                elif isinstance(node, ast.Assign):
                    top.append(node.targets[0].id)
                    self.assertTrue(all(not isinstance(each, (ast.List, ast.Dict)) for value in ast.iter_child_nodes(
                        node.value) for each in ast.walk(value)), (path, node.lineno))
                elif isinstance(node, ast.ClassDef):
                    outside.append(node.name)
                elif isinstance(node, ast.FunctionDef):
                    top.append(node.name)
            self.assertEqual(len(top + outside), len(set(top + outside)), path)
            for node in ast.walk(tree):
                if isinstance(node, ast.arg) or isinstance(node, ast.Name) and isinstance(node.ctx, ast.Store):
                    self.assertNotIn(node.arg if isinstance(node, ast.arg) else node.id, outside, (path, node.lineno))

    def test_own_names_of_objects_are_free(self):
        taken = {name for kind in (str, int, list, tuple, dict, set, bytes) for name in dir(kind)}
        for path, node in nodes((ast.Attribute, ast.FunctionDef)):
            if isinstance(node, ast.Attribute) and isinstance(node.ctx, ast.Store):
                self.assertNotIn(node.attr, taken, (path, node.lineno))
        for path, node in nodes(ast.ClassDef):
            names = [each.name for each in node.body if isinstance(each, ast.FunctionDef)]
            self.assertEqual(len(names), len(set(names)), (path, node.name))
            self.assertEqual(set(names) & taken - TWO_UNDERSCORES, set(), (path, node.name))
            self.assertLessEqual(len(node.bases), 1)
            self.assertTrue(all(isinstance(each, (ast.FunctionDef, ast.Pass)) for each in node.body), (path, node.name))

    def test_no_sets_no_keywords_and_plain_texts(self):
        for path, node in nodes((ast.Set, ast.keyword)):
            self.fail((path, node))
        for path, node in nodes(ast.Name):
            self.assertNotIn(node.id, ("set", "frozenset"), (path, node.lineno))
        for path, node in nodes(ast.Constant):
            if isinstance(node.value, str):
                self.assertNotIn("%", node.value, (path, node.lineno))
        for path, node in nodes(ast.FormattedValue):
            self.assertIsInstance(node.value, ast.Name, (path, node.lineno))
            self.assertIsNone(node.format_spec, (path, node.lineno))

    def test_what_a_loop_walks_is_not_changed_in_it(self):
        changing = ("append", "clear", "extend", "insert", "pop", "remove", "reverse", "setdefault", "update")
        for path, loop in nodes(ast.For):
            walked = ast.dump(loop.iter)
            for node in ast.walk(loop):
                if isinstance(node, ast.Call) and isinstance(node.func, ast.Attribute) and node.func.attr in changing:
                    self.assertNotEqual(ast.dump(node.func.value), walked, (path, node.lineno))
                if isinstance(node, ast.Subscript) and isinstance(node.ctx, ast.Store):
                    self.assertNotEqual(ast.dump(node.value), walked, (path, node.lineno))

    def test_is_stands_beside_none_and_truth_alone(self):
        for path, node in nodes(ast.Compare):
            for sign, right in zip(node.ops, node.comparators):
                if isinstance(sign, (ast.Is, ast.IsNot)):
                    self.assertIsInstance(right, ast.Constant, (path, node.lineno))


if __name__ == "__main__":
    unittest.main()
