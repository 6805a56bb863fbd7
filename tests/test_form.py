"""The form of the package's files: what of the language's rules a look at the code can tell."""

import ast
import builtins
import io
import re
import tokenize
import unittest
from pathlib import Path

TOP = Path(__file__).resolve().parent.parent
PACKAGE = TOP / "layerkinds"
FILES = sorted(PACKAGE.glob("*.py"))

ERRORS = """Exception ValueError TypeError KeyError IndexError LookupError ZeroDivisionError ArithmeticError
OverflowError RuntimeError NotImplementedError AttributeError StopIteration""".split()
CALLED = """len range enumerate zip min max sum abs sorted reversed int str bool list tuple dict set frozenset isinstance
ord repr any all divmod""".split()
WALKED = "zip enumerate reversed range".split()
WALKERS = "list tuple dict sorted sum any all enumerate zip min max".split()
METHODS = """append clear copy count endswith extend find get index insert isalnum isalpha isdigit islower isspace
isupper items join keys ljust lower lstrip partition pop remove replace reverse rfind rjust rpartition rsplit rstrip
setdefault split splitlines startswith strip update upper values zfill bit_length""".split()
NO_NAMES = """register mro elements open input version_info with_traceback add_note attrgetter breakpoint builtins
compile copyright credits delattr dir eval exec exit gc getattr globals hasattr help id importlib license locals
methodcaller os quit setattr super vars sys format format_map""".split()
NO_WORDS = """type typing typing_extensions enum Enum IntEnum StrEnum Flag IntFlag Generic Protocol ABC ABCMeta
namedtuple NamedTuple TypedDict TYPE_CHECKING abstractmethod""".split()
NO_PARTS = "dataclass overload contextmanager".split()
DOUBLE = "__init__ __eq__ __repr__ __str__ __len__".split()

NODES = """Module FunctionDef ClassDef Return Assign AugAssign For While If Raise Try ExceptHandler ImportFrom alias
Expr Pass Break Continue arguments arg Lambda keyword BoolOp And Or BinOp Add Sub Mult FloorDiv Mod Pow LShift RShift
BitOr BitXor BitAnd UnaryOp Not USub UAdd Invert IfExp Dict Set ListComp comprehension Compare Eq NotEq Lt LtE Gt GtE
Is IsNot In NotIn Call JoinedStr FormattedValue Constant Attribute Subscript Name List Tuple Slice Load Store""".split()
TOP_NODES = (ast.ImportFrom, ast.FunctionDef, ast.ClassDef, ast.Assign)
PLAIN_NODES = (ast.Constant, ast.List, ast.Tuple, ast.Dict, ast.UnaryOp, ast.USub, ast.Name, ast.Load)


def text_of(file):
    return file.read_bytes().decode("ascii")


# Each file is read once, so that a node is the same wherever it is met.
TREES = {file: ast.parse(text_of(file)) for file in FILES}


def nodes(file, *kinds):
    return [node for node in ast.walk(TREES[file]) if isinstance(node, kinds or ast.AST)]


def bound_names(file):
    """Every name that a file binds, with those of attributes."""
    found = [node.id for node in nodes(file, ast.Name) if isinstance(node.ctx, ast.Store)]
    found += [node.arg for node in nodes(file, ast.arg)]
    found += [node.name for node in nodes(file, ast.FunctionDef, ast.ClassDef)]
    found += [node.attr for node in nodes(file, ast.Attribute)]
    return found


def parents(file):
    return {child: node for node in nodes(file) for child in ast.iter_child_nodes(node)}


class EachFile(unittest.TestCase):
    """check is called with each of the package's files."""

    def each(self, check):
        self.assertTrue(FILES)
        for file in FILES:
            with self.subTest(file=file.name):
                check(file)


class Files(EachFile):
    def test_only_plainly_named_files(self):
        here = [path.name for path in PACKAGE.iterdir() if path.name != "__pycache__"]
        self.assertIn("__init__.py", here)
        for name in here:
            self.assertRegex(name, r"\A(__init__|[a-z][a-z0-9_]*)\.py\Z")
            self.assertNotRegex(name, r"\A(test.*|site|conftest|sitecustomize|usercustomize)\.py\Z")
            self.assertNotIn(name[:-3], dir(builtins) + NO_WORDS)

    def test_signs(self):
        self.each(lambda file: self.assertRegex(text_of(file), r"\A[ -~\n]*\Z"))

    def test_size(self):
        def check(file):
            lines = text_of(file).split("\n")
            self.assertLessEqual(len(lines), 400)
            self.assertLessEqual(max(len(line) for line in lines), 120)
            for node in nodes(file, ast.FunctionDef):
                self.assertLessEqual(node.end_lineno - node.lineno + 1, 40, node.name)
        self.each(check)

    def test_words_that_stand_nowhere(self):
        def check(file):
            self.assertEqual(set(re.findall(r"\w+", text_of(file))) & set(NO_WORDS), set())
            for part in NO_PARTS:
                self.assertNotIn(part, text_of(file))
        self.each(check)


class Statements(EachFile):
    def test_nodes(self):
        def check(file):
            self.assertEqual({node.__class__.__name__ for node in nodes(file)} - set(NODES), set())
        self.each(check)

    def test_top(self):
        def check(file):
            body = TREES[file].body
            self.assertIsInstance(body[0], ast.Expr)
            self.assertIsInstance(body[0].value.value, str)
            names = []
            for node in body[1:]:
                self.assertIsInstance(node, TOP_NODES)
                if isinstance(node, ast.Assign):
                    names.append(node.targets[0].id)
                    for part in ast.walk(node.value):
                        self.assertIsInstance(part, PLAIN_NODES)
                elif not isinstance(node, ast.ImportFrom):
                    names.append(node.name)
            self.assertEqual(len(set(names)), len(names))
        self.each(check)

    def test_imports(self):
        def check(file):
            for node in nodes(file, ast.ImportFrom):
                self.assertEqual((node.level, node.col_offset), (0, 0))
                drawn = TOP / (node.module.replace(".", "/") + ".py")
                self.assertIn(drawn, FILES)
                defined = [part.name for part in TREES[drawn].body if hasattr(part, "name")]
                for name in node.names:
                    self.assertIn(name.name, defined)
                    self.assertIsNone(name.asname)
        self.each(check)

    def test_no_two_files_draw_from_one_another(self):
        left = {f"layerkinds.{file.stem}": {node.module for node in nodes(file, ast.ImportFrom)} for file in FILES}
        while left:
            free = [name for name, drawn in left.items() if not drawn & set(left)]
            self.assertTrue(free, left)
            for name in free:
                left.pop(name)

    def test_functions_and_classes(self):
        def check(file):
            for node in nodes(file, ast.FunctionDef, ast.ClassDef):
                self.assertEqual(node.decorator_list, [])
            for node in nodes(file, ast.arguments):
                self.assertEqual((node.vararg, node.kwarg, node.kwonlyargs, node.posonlyargs), (None, None, [], []))
            for node in nodes(file, ast.ClassDef):
                for part in node.body:
                    self.assertTrue(isinstance(part, ast.FunctionDef) or isinstance(part.value, ast.Constant))
        self.each(check)

    def test_assignments_and_loops(self):
        def check(file):
            for node in nodes(file, ast.Assign):
                self.assertEqual(len(node.targets), 1)
            for node in nodes(file, ast.For, ast.While):
                self.assertEqual(node.orelse, [])
            for node in nodes(file, ast.ListComp):
                self.assertEqual(len(node.generators), 1)
                self.assertLessEqual(len(node.generators[0].ifs), 1)
        self.each(check)


class Names(EachFile):
    def test_plain(self):
        def check(file):
            for name in bound_names(file):
                if name not in DOUBLE:
                    self.assertRegex(name, r"\A[A-Za-z][A-Za-z0-9_]*\Z")
        self.each(check)

    def test_not_those_that_are_not_used(self):
        def check(file):
            used = {node.id for node in nodes(file, ast.Name)} | set(bound_names(file))
            self.assertEqual(used & set(NO_NAMES), set())
        self.each(check)

    def test_none_of_pythons_own_is_given_another_meaning(self):
        def check(file):
            attributes = [node.attr for node in nodes(file, ast.Attribute)]
            bound = {name for name in bound_names(file) if name not in attributes}
            self.assertEqual(bound & set(dir(builtins)), set())
        self.each(check)

    def test_locals_are_not_called_like_a_class_or_an_import(self):
        def check(file):
            taken = {name.name for node in nodes(file, ast.ImportFrom) for name in node.names}
            taken |= {node.name for node in nodes(file, ast.ClassDef)}
            stored = {node.id for node in nodes(file, ast.Name) if isinstance(node.ctx, ast.Store)}
            self.assertEqual(taken & (stored | {node.arg for node in nodes(file, ast.arg)}), set())
        self.each(check)

    def test_pythons_own_are_those_listed_and_called(self):
        def check(file):
            above = parents(file)
            for node in nodes(file, ast.Name):
                if node.id in dir(builtins):
                    self.assertIn(node.id, ERRORS + CALLED)
                    if node.id in CALLED:
                        self.assertIsInstance(above[node], ast.Call)
        self.each(check)

    def test_methods(self):
        own = {node.name for file in FILES for kind in nodes(file, ast.ClassDef) for node in kind.body
               if isinstance(node, ast.FunctionDef)}
        values = {node.attr for file in FILES for node in nodes(file, ast.Attribute) if isinstance(node.ctx, ast.Store)}
        self.assertEqual(own & values, set())
        python_own = {name for kind in (str, int, list, dict, set, bytes) for name in dir(kind)}
        self.assertEqual(((own | values) - set(DOUBLE)) & python_own, set())

        def check(file):
            for node in nodes(file, ast.Call):
                if isinstance(node.func, ast.Attribute):
                    self.assertIn(node.func.attr, METHODS + sorted(own))
        self.each(check)


class Values(EachFile):
    def test_constants(self):
        def check(file):
            for node in nodes(file, ast.Constant):
                self.assertIn(node.value.__class__, (int, str, bool, None.__class__))
            for token in tokenize.generate_tokens(io.StringIO(text_of(file)).readline):
                if token.type == tokenize.STRING:
                    self.assertNotIn("%", token.string)
                    self.assertNotRegex(token.string, r"\\[^nt\\'\"]")
            for node in nodes(file, ast.FormattedValue):
                self.assertIsInstance(node.value, ast.Name)
        self.each(check)

    def test_powers_have_a_written_exponent(self):
        def check(file):
            for node in nodes(file, ast.BinOp):
                if isinstance(node.op, ast.Pow):
                    self.assertIsInstance(node.right, ast.Constant)
        self.each(check)

    def test_is_stands_beside_none_true_and_false(self):
        def check(file):
            for node in nodes(file, ast.Compare):
                if isinstance(node.ops[0], (ast.Is, ast.IsNot)):
                    self.assertIsInstance(node.comparators[0], ast.Constant)
                    self.assertIn(node.comparators[0].value.__class__, (bool, None.__class__))
        self.each(check)

    def test_walked_at_once(self):
        def check(file):
            above = parents(file)
            for node in nodes(file, ast.Call):
                if isinstance(node.func, ast.Name) and node.func.id in WALKED:
                    parent = above[node]
                    if isinstance(parent, ast.Call):
                        self.assertIn(parent.func.id, WALKERS)
                    else:
                        self.assertIsInstance(parent, (ast.For, ast.comprehension))
                        self.assertIs(parent.iter, node)
        self.each(check)

    def test_sets_are_not_kept_and_not_walked(self):
        def check(file):
            self.assertEqual(nodes(file, ast.Set), [])
            above = parents(file)
            for node in nodes(file, ast.Call):
                if isinstance(node.func, ast.Name) and node.func.id in ("set", "frozenset"):
                    self.assertIsInstance(above[node], ast.Call)
                    self.assertIn(above[node].func.id, ("sorted", "len"))
                    self.assertEqual(above[node].keywords, [])
        self.each(check)


if __name__ == "__main__":
    unittest.main()
