"""The rules of ../shared/LANGUAGE.md that are quick to see; not all of them."""

import ast
import pathlib
import re
import unittest

PACKAGE = pathlib.Path(__file__).resolve().parent.parent / "firstout"
FILES = sorted(PACKAGE.rglob("*.py"))

LEFT_OUT = (
    ast.With, ast.Match, ast.Delete, ast.Global, ast.Nonlocal, ast.Assert, ast.Yield, ast.YieldFrom, ast.AsyncFunctionDef,
    ast.AsyncFor, ast.AsyncWith, ast.Await, ast.SetComp, ast.DictComp, ast.GeneratorExp, ast.NamedExpr, ast.Starred,
    ast.Import, ast.AnnAssign, ast.Div, ast.MatMult,
)
OWN_NAMES = """
len range enumerate zip min max sum abs sorted reversed int str bool list tuple dict set frozenset isinstance ord repr
any all divmod Exception ValueError TypeError KeyError IndexError LookupError ZeroDivisionError ArithmeticError
OverflowError RuntimeError NotImplementedError AttributeError StopIteration
""".split()
LEFT_OUT_WORDS = re.compile(
    r"\b(type|typing|typing_extensions|enum|Enum|IntEnum|StrEnum|Flag|IntFlag|Generic|Protocol|ABC|ABCMeta|namedtuple"
    r"|NamedTuple|TypedDict|TYPE_CHECKING|abstractmethod)\b|dataclass|overload|contextmanager"
)
OWN_METHODS = """
append clear copy count endswith extend find get index insert isalnum isalpha isdigit islower isspace isupper items join
keys ljust lower lstrip partition pop remove replace reverse rfind rjust rpartition rsplit rstrip setdefault split
splitlines startswith strip update upper values zfill bit_length
""".split()
PYTHONS_METHODS = {name for kind in (str, int, list, tuple, dict, set, bytes) for name in dir(kind)}
WALKED = ["zip", "enumerate", "reversed", "range", "items", "keys", "values"]
PLAIN_WORD = re.compile("[A-Za-z][A-Za-z0-9_]*")
PYTHONS_NAMES = vars(__builtins__) if not isinstance(__builtins__, dict) else __builtins__


def nodes(path):
    return ast.walk(ast.parse(path.read_text(encoding="ascii")))


class Language(unittest.TestCase):
    def test_only_python_files_lie_in_the_package(self):
        self.assertIn(PACKAGE / "__init__.py", FILES)
        others = [path for path in PACKAGE.rglob("*") if path.is_file() and "__pycache__" not in path.parts]
        self.assertEqual(sorted(others), FILES)

    def test_sizes_and_signs(self):
        for path in FILES:
            rows = path.read_bytes().decode("ascii").split("\n")
            self.assertLessEqual(len(rows), 401, path)
            for at, row in enumerate(rows, start=1):
                self.assertLessEqual(len(row), 120, (path, at))
                self.assertTrue(all(" " <= sign <= "~" for sign in row), (path, at))
                self.assertIsNone(LEFT_OUT_WORDS.search(row), (path, at))

    def test_forms(self):
        for path in FILES:
            for node in nodes(path):
                where = (path, getattr(node, "lineno", None), node)
                self.assertNotIsInstance(node, LEFT_OUT, where)
                if isinstance(node, ast.Constant):
                    self.assertNotIsInstance(node.value, (float, complex, bytes), where)
                if isinstance(node, ast.FormattedValue):
                    self.assertIsInstance(node.value, ast.Name, where)
                if isinstance(node, ast.FunctionDef):
                    self.assertLessEqual(node.end_lineno - node.lineno + 1, 40, where)
                    self.assertEqual(node.decorator_list, [], where)
                if isinstance(node, (ast.For, ast.While)):
                    self.assertEqual(node.orelse, [], where)

    def test_imports_draw_from_the_package_alone(self):
        for path in FILES:
            for node in nodes(path):
                if isinstance(node, ast.ImportFrom):
                    self.assertEqual(node.level, 0, path)
                    self.assertTrue(node.module.startswith("firstout."), (path, node.module))

    def test_pythons_own_names(self):
        for path in FILES:
            for node in nodes(path):
                if isinstance(node, ast.Name) and node.id in PYTHONS_NAMES:
                    self.assertIn(node.id, OWN_NAMES, (path, node.lineno))
                    self.assertIsInstance(node.ctx, ast.Load, (path, node.lineno))
                if isinstance(node, ast.arg):
                    self.assertNotIn(node.arg, PYTHONS_NAMES, (path, node.lineno))

    def test_names_are_plain_words(self):
        for path in FILES:
            for node in nodes(path):
                name = getattr(node, "id", getattr(node, "arg", getattr(node, "attr", getattr(node, "name", None))))
                if name is not None and name != "__init__":
                    self.assertIsNotNone(PLAIN_WORD.fullmatch(name), (path, name))

    def test_one_target_one_walk_and_no_sets(self):
        for path in FILES:
            for node in nodes(path):
                where = (path, getattr(node, "lineno", None))
                if isinstance(node, ast.Assign):
                    self.assertEqual(len(node.targets), 1, where)
                    self.assertNotIsInstance(node.targets[0], (ast.Tuple, ast.List), where)
                if isinstance(node, ast.ListComp):
                    self.assertEqual(len(node.generators), 1, where)
                    self.assertLessEqual(len(node.generators[0].ifs), 1, where)
                self.assertNotIsInstance(node, ast.Set, where)
                if isinstance(node, ast.Constant) and isinstance(node.value, str):
                    self.assertNotIn("%", node.value, where)

    def test_what_stands_by_itself_is_a_call(self):
        for path in FILES:
            tree = ast.parse(path.read_text(encoding="ascii"))
            self.assertIsNotNone(ast.get_docstring(tree), path)
            for node in ast.walk(tree):
                if isinstance(node, ast.Expr) and node is not tree.body[0]:
                    self.assertIsInstance(node.value, ast.Call, (path, node.lineno))

    def test_is_stands_beside_none_and_truths_alone(self):
        for path in FILES:
            for node in nodes(path):
                if isinstance(node, ast.Compare):
                    for operator, thing in zip(node.ops, node.comparators):
                        if isinstance(operator, (ast.Is, ast.IsNot)):
                            self.assertIsInstance(thing, ast.Constant, (path, node.lineno))

    def test_pythons_own_methods(self):
        own = {node.name for path in FILES for node in nodes(path) if isinstance(node, ast.FunctionDef)}
        for path in FILES:
            for node in nodes(path):
                if isinstance(node, ast.Attribute) and node.attr in PYTHONS_METHODS and node.attr != "__init__":
                    self.assertIn(node.attr, OWN_METHODS, (path, node.lineno))
        self.assertEqual(sorted(own & PYTHONS_METHODS), ["__init__"])

    def test_what_is_walked_is_not_kept(self):
        for path in FILES:
            tree = ast.parse(path.read_text(encoding="ascii"))
            walked = [node.iter for node in ast.walk(tree) if isinstance(node, (ast.For, ast.comprehension))]
            walked += [node.args[0] for node in ast.walk(tree) if isinstance(node, ast.Call) and node.args
                       and getattr(node.func, "id", None) in ["list", "tuple", "dict", "sorted", "sum", "any", "all"]]
            for node in ast.walk(tree):
                if isinstance(node, ast.Call) and getattr(node.func, "id", getattr(node.func, "attr", None)) in WALKED:
                    self.assertIn(node, walked, (path, node.lineno))

    def test_no_two_files_draw_from_one_another(self):
        drawn = {path.stem: [node.module.split(".")[1] for node in nodes(path) if isinstance(node, ast.ImportFrom)]
                 for path in FILES}
        while drawn:
            free = [name for name in drawn if not set(drawn[name]) & set(drawn)]
            self.assertNotEqual(free, [], drawn)
            drawn = {name: drawn[name] for name in drawn if name not in free}

    def test_no_name_is_a_method_here_and_a_value_there(self):
        methods, values = {}, {}
        for path in FILES:
            for node in nodes(path):
                if isinstance(node, ast.ClassDef):
                    methods.update({part.name: path for part in node.body if isinstance(part, ast.FunctionDef)})
                if isinstance(node, ast.Attribute) and isinstance(node.ctx, ast.Store):
                    values[node.attr] = path
        self.assertEqual(sorted(set(methods) & set(values)), [])

    def test_no_local_is_called_like_a_class_or_an_import_of_its_file(self):
        for path in FILES:
            tree = ast.parse(path.read_text(encoding="ascii"))
            taken = [node.name for node in tree.body if isinstance(node, ast.ClassDef)]
            taken += [part.name for node in tree.body if isinstance(node, ast.ImportFrom) for part in node.names]
            for node in ast.walk(tree):
                if isinstance(node, ast.arg):
                    self.assertNotIn(node.arg, taken, (path, node.lineno))
                if isinstance(node, ast.Name) and isinstance(node.ctx, ast.Store):
                    self.assertNotIn(node.id, taken, (path, node.lineno))


if __name__ == "__main__":
    unittest.main()
