"""Some of the rules of ../shared/LANGUAGE.md, as far as a walk through the text shows them; not L13, L19, L22, L24, L28."""

import ast
import builtins
import pathlib
import re
import unittest

PACKAGE = pathlib.Path(__file__).resolve().parent.parent / "wordboard"

STATEMENTS = (ast.Assign, ast.AugAssign, ast.If, ast.While, ast.For, ast.Return, ast.Break, ast.Continue, ast.Pass,
              ast.Raise, ast.Try, ast.Expr, ast.FunctionDef, ast.ClassDef, ast.ImportFrom)
EXPRESSIONS = (ast.Constant, ast.List, ast.Tuple, ast.Dict, ast.Set, ast.BinOp, ast.UnaryOp, ast.BoolOp, ast.Compare,
               ast.IfExp, ast.Call, ast.Attribute, ast.Subscript, ast.Slice, ast.ListComp, ast.Name, ast.Lambda,
               ast.JoinedStr, ast.FormattedValue)
OWN_NAMES = set("""len range enumerate zip min max sum abs sorted reversed int str bool list tuple dict set frozenset
    isinstance ord repr any all divmod Exception ValueError TypeError KeyError IndexError LookupError
    ZeroDivisionError ArithmeticError OverflowError RuntimeError NotImplementedError AttributeError
    StopIteration""".split())
METHODS = set("""append clear copy count endswith extend find get index insert isalnum isalpha isdigit islower isspace
    isupper items join keys ljust lower lstrip partition pop remove replace reverse rfind rjust rpartition rsplit rstrip
    setdefault split splitlines startswith strip update upper values zfill bit_length""".split())
UNUSED = set("""register mro elements open input version_info with_traceback add_note attrgetter breakpoint builtins
    compile copyright credits delattr dir eval exec exit gc getattr globals hasattr help id importlib license locals
    methodcaller os quit setattr super type vars sys format format_map""".split())
UNSAID = re.compile(r"""\b(type|typing|typing_extensions|enum|Enum|IntEnum|StrEnum|Flag|IntFlag|Generic|Protocol|ABC|
    ABCMeta|namedtuple|NamedTuple|TypedDict|TYPE_CHECKING|abstractmethod)\b|dataclass|overload|contextmanager""", re.X)
WALKED = ("zip", "enumerate", "reversed", "range")
WALKERS = ("list", "tuple", "dict", "sorted", "sum", "any", "all", "enumerate", "zip", "min", "max")


def sources():
    return [(path, path.read_text()) for path in sorted(PACKAGE.rglob("*.py"))]


def trees():
    return [(path, ast.parse(text)) for path, text in sources()]


def nodes(*kinds):
    for path, tree in trees():
        for node in ast.walk(tree):
            if isinstance(node, kinds):
                yield f"{path.name}:{getattr(node, 'lineno', 0)}", node


def bound_names(tree):
    names = []
    for node in ast.walk(tree):
        if isinstance(node, ast.Name) and isinstance(node.ctx, ast.Store):
            names.append(node.id)
        elif isinstance(node, ast.arg):
            names.append(node.arg)
        elif isinstance(node, (ast.FunctionDef, ast.ClassDef)):
            names.append(node.name)
        elif isinstance(node, ast.ImportFrom):
            names.extend(alias.name for alias in node.names)
    return names


class Files(unittest.TestCase):
    def test_files_and_signs(self):  # L1, L14
        for path in PACKAGE.rglob("*"):
            if "__pycache__" not in path.parts:
                self.assertEqual(path.suffix, ".py", path)
        for path, text in sources():
            self.assertRegex(path.stem, r"^([a-z][a-z0-9_]*|__init__)$")
            self.assertNotIn(path.stem, dir(builtins))
            self.assertTrue(all(" " <= sign <= "~" or sign == "\n" for sign in text), path)

    def test_sizes(self):  # L10
        for path, text in sources():
            self.assertLessEqual(text.count("\n"), 400, path)
            self.assertLessEqual(max(len(line) for line in text.split("\n")), 120, path)
        for place, node in nodes(ast.FunctionDef):
            self.assertLessEqual(node.end_lineno - node.lineno + 1, 40, place)

    def test_words_that_are_not_said(self):  # L17
        for path, text in sources():
            self.assertIsNone(UNSAID.search(text), path)


class Imports(unittest.TestCase):
    def test_from_the_file_that_defines_the_name(self):  # L2, L16
        defined = {f"wordboard.{path.stem}": self.top_names(tree) for path, tree in trees()}
        for place, node in nodes(ast.Import, ast.ImportFrom):
            self.assertIsInstance(node, ast.ImportFrom, place)
            self.assertEqual(node.level, 0, place)
            for alias in node.names:
                self.assertIsNone(alias.asname, place)
                self.assertIn(alias.name, defined[node.module], place)

    def top_names(self, tree):
        names = [node.name for node in tree.body if isinstance(node, (ast.FunctionDef, ast.ClassDef))]
        return names + [node.targets[0].id for node in tree.body if isinstance(node, ast.Assign)]

    def test_no_circle(self):  # L16
        drawn = {path.stem: [node.module.split(".")[1] for node in tree.body if isinstance(node, ast.ImportFrom)]
                 for path, tree in trees()}
        self.assertEqual(drawn["__init__"], [])
        done = []
        while len(done) < len(drawn):
            ready = [name for name in drawn if name not in done and all(other in done for other in drawn[name])]
            self.assertNotEqual(ready, [], drawn)
            done.extend(ready)


class Names(unittest.TestCase):
    def test_names_that_are_bound(self):  # L8, L12, L15, L17
        for path, tree in trees():
            tops = [alias.name for node in tree.body if isinstance(node, ast.ImportFrom) for alias in node.names]
            tops += [node.name for node in tree.body if isinstance(node, ast.ClassDef)]
            for name in bound_names(tree):
                self.assertTrue(re.fullmatch(r"[A-Za-z][A-Za-z0-9_]*", name) or name == "__init__", (path, name))
                self.assertFalse(name in vars(builtins) or name in UNUSED, (path, name))
            for node in ast.walk(tree):
                local = node.arg if isinstance(node, ast.arg) else node.id if isinstance(node, ast.Name) and isinstance(
                    node.ctx, ast.Store) else None
                self.assertNotIn(local, tops, path)

    def test_names_that_are_read(self):  # L8
        for path, tree in trees():
            known = set(bound_names(tree)) | OWN_NAMES
            for node in ast.walk(tree):
                if isinstance(node, ast.Name):
                    self.assertIn(node.id, known, (path, node.lineno))

    def test_methods_and_values(self):  # L18, L25, L26
        methods = {node.name for place, top in nodes(ast.ClassDef) for node in top.body
                   if isinstance(node, ast.FunctionDef)}
        values = {node.attr for place, node in nodes(ast.Attribute) if isinstance(node.ctx, ast.Store)}
        self.assertEqual(methods & values, set())
        for kind in (str, int, list, dict, set, bytes):
            self.assertEqual([name for name in (methods | values) - {"__init__"} if hasattr(kind, name)], [])
        called = [node.func.attr for place, node in nodes(ast.Call) if isinstance(node.func, ast.Attribute)]
        self.assertEqual(set(called) - METHODS - methods, set())
        for place, node in nodes(ast.Attribute):
            self.assertIn(node.attr, METHODS | methods | values, place)


class Forms(unittest.TestCase):
    def test_the_top_of_a_module(self):  # L3, L15
        for path, tree in trees():
            self.assertIsNotNone(ast.get_docstring(tree), path)
            for node in tree.body[1:]:
                self.assertIsInstance(node, (ast.ImportFrom, ast.FunctionDef, ast.ClassDef, ast.Assign), path)
                if isinstance(node, ast.Assign):
                    ast.literal_eval(node.value)
                    inner = [other for other in ast.walk(node.value) if isinstance(other, (ast.List, ast.Dict, ast.Set))]
                    self.assertIn(inner, ([], [node.value]), path)
            tops = [node.targets[0].id for node in tree.body if isinstance(node, ast.Assign)]
            self.assertEqual(len(tops), len(set(tops)), path)

    def test_functions_and_classes(self):  # L4, L5, L21
        for place, node in nodes(ast.FunctionDef):
            self.assertEqual(node.decorator_list, [], place)
            self.assertIsNone(node.returns, place)
            told = node.args
            self.assertEqual((told.vararg, told.kwarg, told.kwonlyargs, told.posonlyargs), (None, None, [], []), place)
            self.assertTrue(all(arg.annotation is None for arg in told.args), place)
        for place, node in nodes(ast.ClassDef):
            self.assertEqual((node.decorator_list, node.keywords), ([], []), place)
            rest = node.body[1:] if ast.get_docstring(node) else node.body
            self.assertTrue(all(isinstance(part, ast.FunctionDef) for part in rest), place)

    def test_statements(self):  # L6
        for place, node in nodes(ast.stmt):
            self.assertIsInstance(node, STATEMENTS, place)
        for place, node in nodes(ast.Assign):
            self.assertEqual(len(node.targets), 1, place)
            self.assertNotIsInstance(node.targets[0], (ast.Tuple, ast.List), place)
        for place, node in nodes(ast.While, ast.For):
            self.assertEqual(node.orelse, [], place)
        for place, node in nodes(ast.Try):
            self.assertEqual(node.finalbody, [], place)

    def test_expressions(self):  # L7, L20, L27
        for place, node in nodes(ast.expr):
            self.assertIsInstance(node, EXPRESSIONS, place)
        for place, node in nodes(ast.Constant):
            self.assertIn(type(node.value), (int, str, bool, type(None)), place)
            self.assertNotIn("%", str(node.value), place)
        for place, node in nodes(ast.ListComp):
            self.assertEqual(len(node.generators), 1, place)
            self.assertLessEqual(len(node.generators[0].ifs), 1, place)
        for place, node in nodes(ast.FormattedValue):
            self.assertIsInstance(node.value, ast.Name, place)
            self.assertIsNone(node.format_spec, place)
        for place, node in nodes(ast.Compare):
            for operator, beside in zip(node.ops, node.comparators):
                if isinstance(operator, (ast.Is, ast.IsNot)):
                    self.assertIsInstance(beside, ast.Constant, place)
                    self.assertIn(type(beside.value), (bool, type(None)), place)
        for place, node in nodes(ast.Div, ast.Pow, ast.Set):
            self.fail((place, node))

    def test_walked_at_once(self):  # L23
        walked = []
        for place, node in nodes(ast.For, ast.comprehension):
            walked.append(ast.dump(node.iter, include_attributes=True))
        for place, node in nodes(ast.Call):
            if isinstance(node.func, ast.Name) and node.func.id in WALKERS:
                walked.extend(ast.dump(arg, include_attributes=True) for arg in node.args)
        for place, node in nodes(ast.Call):
            if isinstance(node.func, ast.Name) and node.func.id in WALKED:
                self.assertIn(ast.dump(node, include_attributes=True), walked, place)


if __name__ == "__main__":
    unittest.main()
