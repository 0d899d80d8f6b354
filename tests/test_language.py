"""The package's files keep to what can be seen of LANGUAGE.md at a glance; the rest is read by people."""

import ast
import builtins
import pathlib
import re
import unittest

PACKAGE = pathlib.Path(__file__).resolve().parent.parent / "signsounds"

ALLOWED_BUILTINS = """
    len range enumerate zip min max sum abs sorted reversed int str bool list tuple dict set frozenset isinstance ord
    repr any all divmod Exception ValueError TypeError KeyError IndexError LookupError ZeroDivisionError
    ArithmeticError OverflowError RuntimeError NotImplementedError AttributeError StopIteration
""".split()

ALLOWED_STATEMENTS = (
    ast.FunctionDef, ast.ClassDef, ast.ImportFrom, ast.Assign, ast.AugAssign, ast.If, ast.While, ast.For, ast.Return,
    ast.Break, ast.Continue, ast.Pass, ast.Raise, ast.Try, ast.Expr,
)

BARRED_EXPRESSIONS = (
    ast.SetComp, ast.DictComp, ast.GeneratorExp, ast.NamedExpr, ast.Starred, ast.Yield, ast.YieldFrom, ast.Await,
    ast.Div, ast.MatMult,
)

BARRED_WORDS = re.compile(
    r"\b(type|typing|typing_extensions|enum|Enum|IntEnum|StrEnum|Flag|IntFlag|Generic|Protocol|ABC|ABCMeta|namedtuple"
    r"|NamedTuple|TypedDict|TYPE_CHECKING|abstractmethod)\b|dataclass|overload|contextmanager"
)


ALLOWED_METHODS = """
    append clear copy count endswith extend find get index insert isalnum isalpha isdigit islower isspace isupper items
    join keys ljust lower lstrip partition pop remove replace reverse rfind rjust rpartition rsplit rstrip setdefault
    split splitlines startswith strip update upper values zfill bit_length
""".split()

BARRED_NAMES = """
    register mro elements open input version_info with_traceback add_note attrgetter breakpoint builtins compile
    copyright credits delattr dir eval exec exit gc getattr globals hasattr help id importlib license locals
    methodcaller os quit setattr super type vars sys chr format format_map
""".split()


def files():
    """Each file of the package with its text and its tree."""
    for path in sorted(PACKAGE.glob("**/*.py")):
        written = path.read_bytes().decode("utf-8")
        yield path, written, ast.parse(written)


class Language(unittest.TestCase):
    def test_the_package_holds_plain_files_alone(self):
        for path in PACKAGE.glob("**/*"):
            if "__pycache__" not in path.parts:
                self.assertRegex(path.name, r"^(__init__|[a-z][a-z0-9_]*)\.py$")

    def test_size_and_signs(self):
        for path, written, tree in files():
            rows = written.split("\n")
            self.assertLessEqual(len(rows), 400, path)
            self.assertLessEqual(max(len(row) for row in rows), 120, path)
            self.assertTrue(all(" " <= sign <= "~" or sign == "\n" for sign in written), path)
            for node in ast.walk(tree):
                if isinstance(node, ast.FunctionDef):
                    self.assertLessEqual(node.end_lineno - node.lineno + 1, 40, node.name)

    def test_barred_words(self):
        for path, written, tree in files():
            self.assertIsNone(BARRED_WORDS.search(written), path)

    def test_imports(self):
        for path, written, tree in files():
            for node in ast.walk(tree):
                self.assertNotIsInstance(node, ast.Import, path)
                if isinstance(node, ast.ImportFrom):
                    self.assertEqual(node.level, 0, path)
                    self.assertTrue(node.module.startswith("signsounds."), path)

    def test_statements_and_expressions(self):
        for path, written, tree in files():
            for node in ast.walk(tree):
                self.assertNotIsInstance(node, BARRED_EXPRESSIONS, path)
                if isinstance(node, ast.stmt):
                    self.assertIsInstance(node, ALLOWED_STATEMENTS, path)
                if isinstance(node, ast.Assign):
                    self.assertEqual(len(node.targets), 1, path)
                if isinstance(node, (ast.For, ast.While)):
                    self.assertEqual(node.orelse, [], path)
                if isinstance(node, ast.Constant):
                    self.assertNotIsInstance(node.value, (float, complex, bytes), path)

    def test_names(self):
        for path, written, tree in files():
            taken = top_names(tree)
            for node in ast.walk(tree):
                if isinstance(node, ast.Name):
                    self.assertRegex(node.id, r"^[A-Za-z][A-Za-z0-9_]*$")
                    self.assertNotIn(node.id, BARRED_NAMES, path)
                    if hasattr(builtins, node.id):
                        self.assertIsInstance(node.ctx, ast.Load, node.id)
                        self.assertIn(node.id, ALLOWED_BUILTINS, path)
                    if isinstance(node.ctx, ast.Store):
                        self.assertNotIn(node.id, taken, path)
                if isinstance(node, ast.arg):
                    self.assertFalse(hasattr(builtins, node.arg), node.arg)
                    self.assertNotIn(node.arg, taken, path)
                if isinstance(node, ast.Attribute):
                    self.assertNotIn(node.attr, BARRED_NAMES, path)

    def test_functions(self):
        for path, written, tree in files():
            for node in ast.walk(tree):
                if isinstance(node, (ast.FunctionDef, ast.ClassDef)):
                    self.assertEqual(node.decorator_list, [], path)
                if isinstance(node, ast.arguments):
                    self.assertEqual((node.posonlyargs, node.kwonlyargs), ([], []), path)
                    self.assertIsNone(node.vararg or node.kwarg, path)
                if isinstance(node, ast.arg):
                    self.assertIsNone(node.annotation, path)
                if isinstance(node, ast.comprehension):
                    self.assertLessEqual(len(node.ifs), 1, path)
                if isinstance(node, ast.ListComp):
                    self.assertEqual(len(node.generators), 1, path)

    def test_methods_and_values(self):
        methods, values, called = set(), set(), set()
        for path, written, tree in files():
            for node in ast.walk(tree):
                if isinstance(node, ast.ClassDef):
                    methods |= {each.name for each in node.body if isinstance(each, ast.FunctionDef)}
                    self.assertTrue(all(isinstance(each, (ast.FunctionDef, ast.Expr)) for each in node.body), path)
                if isinstance(node, ast.Attribute) and isinstance(node.ctx, ast.Store):
                    values.add(node.attr)
                if isinstance(node, ast.Call) and isinstance(node.func, ast.Attribute):
                    called.add(node.func.attr)
        self.assertEqual(methods & values, set())
        self.assertEqual(called - methods - set(ALLOWED_METHODS), set())
        own = {name for kind in (str, int, list, dict, set, bytes, tuple) for name in dir(kind)}
        self.assertEqual((methods | values) & own - {"__init__"}, set())

    def test_comparisons_and_texts(self):
        for path, written, tree in files():
            for node in ast.walk(tree):
                if isinstance(node, ast.Compare) and isinstance(node.ops[0], (ast.Is, ast.IsNot)):
                    self.assertIn(ast.unparse(node.comparators[0]), ("None", "True", "False"), path)
                if isinstance(node, ast.Constant) and isinstance(node.value, str):
                    self.assertNotIn("%", node.value, path)
                if isinstance(node, ast.Set):
                    self.assertLess(len(node.elts), 3, path)

    def test_no_two_files_draw_from_one_another(self):
        drawn = {}
        for path, written, tree in files():
            drawn[path.stem] = {
                node.module.split(".")[1] for node in ast.walk(tree) if isinstance(node, ast.ImportFrom)
            }
        while drawn:
            free = [name for name, others in drawn.items() if not others & set(drawn)]
            self.assertNotEqual(free, [], drawn)
            for name in free:
                del drawn[name]

    def test_what_is_imported_is_defined_there_and_used(self):
        tops = {path.stem: tree for path, written, tree in files()}
        for name, tree in tops.items():
            for node in tree.body:
                if isinstance(node, ast.ImportFrom):
                    for each in node.names:
                        self.assertIsNone(each.asname)
                        self.assertIn(each.name, defined_names(tops[node.module.split(".")[1]]), name)
                        used = [n for n in ast.walk(tree) if isinstance(n, ast.Name) and n.id == each.name]
                        self.assertNotEqual(used, [], (name, each.name))


def top_names(tree):
    """The classes and imports of a file: no parameter and no local is called like one."""
    found = {node.name for node in tree.body if isinstance(node, ast.ClassDef)}
    return found | {each.name for node in tree.body if isinstance(node, ast.ImportFrom) for each in node.names}


def defined_names(tree):
    """What a file's top binds, each name once."""
    found = [node.name for node in tree.body if isinstance(node, (ast.ClassDef, ast.FunctionDef))]
    found += [node.targets[0].id for node in tree.body if isinstance(node, ast.Assign)]
    if len(set(found)) != len(found):
        raise AssertionError(found)
    return found


if __name__ == "__main__":
    unittest.main()
