"""The part of Python that the package keeps to, as far as it can be seen from its files."""

import ast
import builtins
import pathlib
import re
import unittest

PACKAGE = pathlib.Path(__file__).resolve().parent.parent / "saylayers"
FILES = sorted(PACKAGE.rglob("*.py"))

STATEMENTS = (
    ast.Assign, ast.AugAssign, ast.If, ast.While, ast.For, ast.Return, ast.Break, ast.Continue, ast.Pass, ast.Raise,
    ast.Try, ast.Expr, ast.FunctionDef, ast.ClassDef, ast.ImportFrom,
)
EXPRESSIONS = (
    ast.Constant, ast.List, ast.Tuple, ast.Dict, ast.BinOp, ast.UnaryOp, ast.Compare, ast.BoolOp, ast.IfExp, ast.Call,
    ast.Attribute, ast.Subscript, ast.Slice, ast.ListComp, ast.Name,
)
OWN_NAMES = (
    "len range enumerate zip min max sum abs sorted reversed int str bool list tuple dict set frozenset isinstance ord "
    "repr any all divmod Exception ValueError TypeError KeyError IndexError LookupError ZeroDivisionError "
    "ArithmeticError OverflowError RuntimeError NotImplementedError StopIteration"
).split()
METHODS = (
    "append clear copy count endswith extend find get index insert isalnum isalpha isdigit islower isspace isupper items "
    "join keys ljust lower lstrip partition pop remove replace reverse rfind rjust rpartition rsplit rstrip setdefault "
    "split splitlines startswith strip update upper values zfill bit_length"
).split()
WORDS = (
    "type typing typing_extensions enum Enum IntEnum StrEnum Flag IntFlag Generic Protocol ABC ABCMeta namedtuple "
    "NamedTuple TypedDict TYPE_CHECKING abstractmethod"
).split()
UNUSED = "register mro elements open input version_info with_traceback add_note format format_map chr".split()


def tree_of(file):
    return ast.parse(file.read_text(encoding="utf-8"))


def bound_names(tree):
    """Every name that a file binds: defs, classes, parameters, locals."""
    found = []
    for node in ast.walk(tree):
        if isinstance(node, (ast.FunctionDef, ast.ClassDef)):
            found.append(node.name)
        elif isinstance(node, ast.arg):
            found.append(node.arg)
        elif isinstance(node, ast.Name) and isinstance(node.ctx, ast.Store):
            found.append(node.id)
        elif isinstance(node, ast.alias):
            found.append(node.asname or node.name)
    return found


def class_names(tree):
    """The methods of a file's classes, and the values that its objects are given."""
    methods = []
    given = []
    for node in ast.walk(tree):
        if isinstance(node, ast.ClassDef):
            methods += [part.name for part in node.body if isinstance(part, ast.FunctionDef)]
        elif isinstance(node, ast.Attribute) and isinstance(node.ctx, ast.Store):
            given.append(node.attr)
    return methods, given


class FilesTest(unittest.TestCase):
    def test_what_lies_in_the_package(self):
        for path in PACKAGE.rglob("*"):
            if "__pycache__" not in path.parts:
                self.assertRegex(path.name, r"\A[a-z0-9_]+\.py\Z")
                self.assertNotIn(path.stem, dir(builtins))
        self.assertIn(PACKAGE / "__init__.py", FILES)

    def test_signs_and_sizes(self):
        for file in FILES:
            text = file.read_text(encoding="utf-8")
            self.assertRegex(text, r"\A[ -~\n]*\Z", file)
            lines = text.split("\n")
            self.assertLessEqual(len(lines), 400, file)
            self.assertLessEqual(max(len(line) for line in lines), 120, file)
            for node in ast.walk(ast.parse(text)):
                if isinstance(node, ast.FunctionDef):
                    self.assertLessEqual(node.end_lineno - node.lineno + 1, 40, (file, node.name))

    def test_words(self):
        for file in FILES:
            words = re.findall(r"\w+", file.read_text(encoding="utf-8"))
            self.assertEqual([word for word in words if word in WORDS], [], file)
            self.assertEqual([word for word in words if re.search("dataclass|overload|contextmanager", word)], [], file)


class ImportsTest(unittest.TestCase):
    def test_imports_come_from_the_file_that_defines_the_name(self):
        tops = {f"saylayers.{file.stem}": self.defined(file) for file in FILES}
        for file in FILES:
            for node in ast.walk(tree_of(file)):
                self.assertNotIsInstance(node, ast.Import, file)
                if isinstance(node, ast.ImportFrom):
                    self.assertEqual(node.level, 0, file)
                    self.assertIn(node.module, tops, file)
                    for alias in node.names:
                        self.assertIn(alias.name, tops[node.module], file)

    def defined(self, file):
        found = []
        for node in tree_of(file).body:
            if isinstance(node, (ast.FunctionDef, ast.ClassDef)):
                found.append(node.name)
            elif isinstance(node, ast.Assign):
                found += [target.id for target in node.targets]
        self.assertEqual(len(found), len(set(found)), file)
        return found

    def test_no_two_files_draw_from_one_another(self):
        drawn = {}
        for file in FILES:
            modules = [node.module for node in ast.walk(tree_of(file)) if isinstance(node, ast.ImportFrom)]
            drawn[f"saylayers.{file.stem}"] = set(modules + (["saylayers.__init__"] if modules else []))
        while drawn:
            ready = [name for name, needs in drawn.items() if not needs & set(drawn)]
            self.assertTrue(ready, drawn)
            for name in ready:
                drawn.pop(name)


class FormsTest(unittest.TestCase):
    def test_statements_and_expressions(self):
        for file in FILES:
            for node in ast.walk(tree_of(file)):
                place = (file.name, getattr(node, "lineno", 0))
                if isinstance(node, ast.stmt):
                    self.assertIsInstance(node, STATEMENTS, place)
                if isinstance(node, ast.expr):
                    self.assertIsInstance(node, EXPRESSIONS, place)
                if isinstance(node, ast.Constant):
                    self.assertIn(node.value.__class__, (int, str, bool, None.__class__), place)
                if isinstance(node, ast.Assign):
                    self.assertEqual(len(node.targets), 1, place)
                    self.assertNotIsInstance(node.targets[0], (ast.Tuple, ast.List), place)
                if isinstance(node, ast.ListComp):
                    self.assertEqual(len(node.generators), 1, place)
                    self.assertLessEqual(len(node.generators[0].ifs), 1, place)
                if isinstance(node, (ast.For, ast.While)):
                    self.assertEqual(node.orelse, [], place)
                if isinstance(node, ast.BinOp):
                    self.assertNotIsInstance(node.op, (ast.Div, ast.MatMult, ast.Pow), place)

    def test_defs(self):
        for file in FILES:
            for node in ast.walk(tree_of(file)):
                if isinstance(node, ast.FunctionDef):
                    self.assertEqual(node.decorator_list, [], node.name)
                    self.assertIsNone(node.returns, node.name)
                    self.assertTrue(node.args.vararg is None and node.args.kwarg is None, node.name)
                    self.assertEqual(node.args.kwonlyargs + node.args.posonlyargs, [], node.name)
                    self.assertEqual([part.annotation for part in node.args.args if part.annotation], [], node.name)
                if isinstance(node, ast.ClassDef):
                    self.assertEqual(node.decorator_list, [], node.name)
                    for part in node.body:
                        self.assertIsInstance(part, (ast.FunctionDef, ast.Expr), node.name)

    def test_the_top_of_a_file(self):
        for file in FILES:
            tree = tree_of(file)
            self.assertIsNotNone(ast.get_docstring(tree), file)
            for node in tree.body[1:]:
                self.assertIsInstance(node, (ast.ImportFrom, ast.Assign, ast.FunctionDef, ast.ClassDef), file)
                if isinstance(node, ast.Assign):
                    plain = ast.literal_eval(node.value)
                    inner = plain.values() if isinstance(plain, dict) else plain if isinstance(plain, (list, tuple)) else []
                    self.assertEqual([part for part in inner if isinstance(part, (list, dict, set))], [], file)


class NamesTest(unittest.TestCase):
    def test_bound_names(self):
        for file in FILES:
            for name in bound_names(tree_of(file)):
                if name != "__init__":
                    self.assertRegex(name, r"\A[A-Za-z][A-Za-z0-9_]*\Z", file)
                    self.assertNotIn(name, dir(builtins), file)
                    self.assertNotIn(name, UNUSED, file)

    def test_pythons_own_names(self):
        for file in FILES:
            tree = tree_of(file)
            known = set(bound_names(tree)) | set(OWN_NAMES)
            for node in ast.walk(tree):
                if isinstance(node, ast.Name):
                    self.assertIn(node.id, known, (file.name, node.lineno))

    def test_methods_and_values(self):
        methods = []
        given = []
        for file in FILES:
            found = class_names(tree_of(file))
            methods += found[0]
            given += found[1]
        self.assertEqual(set(methods) & set(given), set())
        taken = {name for kind in (str, int, list, dict, set, bytes) for name in dir(kind)} - {"__init__"}
        self.assertEqual((set(methods) | set(given)) & (taken | set(UNUSED)), set())
        for file in FILES:
            for node in ast.walk(tree_of(file)):
                if isinstance(node, ast.Attribute):
                    self.assertIn(node.attr, set(methods) | set(given) | set(METHODS), (file.name, node.lineno))

    def test_what_is_walked_at_once(self):
        kept = ("zip", "enumerate", "reversed", "range", "items", "keys", "values")
        for file in FILES:
            for node in ast.walk(tree_of(file)):
                if isinstance(node, ast.Assign) and isinstance(node.value, ast.Call):
                    called = node.value.func
                    name = called.id if isinstance(called, ast.Name) else called.attr
                    self.assertNotIn(name, kept, (file.name, node.lineno))

    def test_is_stands_beside_none_alone(self):
        for file in FILES:
            for node in ast.walk(tree_of(file)):
                if isinstance(node, ast.Compare) and isinstance(node.ops[0], (ast.Is, ast.IsNot)):
                    self.assertIsInstance(node.comparators[0], ast.Constant, (file.name, node.lineno))
