"""The package keeps to a small part of Python: what can be seen in its files is looked at here."""

import ast
import builtins
import pathlib
import re
import unittest

PACKAGE = pathlib.Path(__file__).resolve().parent.parent / "pointgame"

OWN_NAMES = set(
    "len range enumerate zip min max sum abs sorted reversed int str bool list tuple dict set "
    "frozenset isinstance ord repr any all divmod Exception ValueError TypeError KeyError IndexError "
    "LookupError ZeroDivisionError ArithmeticError OverflowError RuntimeError NotImplementedError "
    "AttributeError StopIteration".split())

OWN_METHODS = set(
    "append clear copy count endswith extend find get index insert isalnum isalpha isdigit islower "
    "isspace isupper items join keys ljust lower lstrip partition pop remove replace reverse rfind "
    "rjust rpartition rsplit rstrip setdefault split splitlines startswith strip update upper values "
    "zfill bit_length".split())

BARRED_WORDS = re.compile(
    r"\b(type|typing|typing_extensions|enum|Enum|IntEnum|StrEnum|Flag|IntFlag|Generic|Protocol|ABC|"
    r"ABCMeta|namedtuple|NamedTuple|TypedDict|TYPE_CHECKING|abstractmethod)\b|"
    r"dataclass|overload|contextmanager")

BARRED_NAMES = set(
    "register mro elements open input version_info with_traceback add_note attrgetter breakpoint builtins "
    "compile copyright credits delattr dir eval exec exit gc getattr globals hasattr help id importlib "
    "license locals methodcaller os quit setattr super type vars sys".split())

BARRED_NODES = (
    ast.With, ast.Match, ast.Delete, ast.Global, ast.Nonlocal, ast.Assert, ast.Yield, ast.YieldFrom,
    ast.Await, ast.AsyncFunctionDef, ast.AsyncFor, ast.AsyncWith, ast.GeneratorExp, ast.SetComp,
    ast.DictComp, ast.NamedExpr, ast.Starred, ast.Div, ast.MatMult, ast.Import, ast.AnnAssign)


def files():
    return sorted(path for path in PACKAGE.rglob("*") if "__pycache__" not in path.parts)


def trees():
    return [(path, ast.parse(path.read_text(encoding="ascii"))) for path in files()]


def nodes(*kinds):
    return [(path, node) for path, tree in trees() for node in ast.walk(tree) if isinstance(node, kinds)]


def own_definitions():
    return {node.name for path, node in nodes(ast.FunctionDef, ast.ClassDef)}


class LanguageTest(unittest.TestCase):
    def test_files(self):
        self.assertIn(PACKAGE / "desk.py", files())
        for path in files():
            self.assertRegex(path.name, r"^[a-z0-9_]+\.py$")
            self.assertNotIn(path.stem, dir(builtins), path)

    def test_signs_and_sizes(self):
        for path in files():
            written = path.read_text(encoding="utf-8")
            self.assertEqual(re.findall(r"[^ -~\n]", written), [], path)
            self.assertEqual(BARRED_WORDS.findall(written), [], path)
            self.assertLessEqual(len(written.splitlines()), 400, path)
            self.assertLessEqual(max(len(line) for line in written.splitlines()), 120, path)

    def test_functions(self):
        for path, node in nodes(ast.FunctionDef, ast.Lambda):
            self.assertIsNone(node.args.vararg, path)
            self.assertIsNone(node.args.kwarg, path)
            self.assertEqual(node.args.kwonlyargs, [], path)
            self.assertLessEqual(node.end_lineno - node.lineno + 1, 40, path)
        for path, node in nodes(ast.FunctionDef, ast.ClassDef):
            self.assertEqual(node.decorator_list, [], path)

    def test_only_the_package_itself_is_imported(self):
        for path, node in nodes(ast.ImportFrom):
            self.assertEqual(node.level, 0, path)
            self.assertRegex(node.module, r"^pointgame\.[a-z_]+$", path)
            self.assertNotIn("*", [part.name for part in node.names], path)

    def test_statements_and_expressions(self):
        for path, node in nodes(*BARRED_NODES):
            self.fail(f"{path}:{node.lineno}: {ast.unparse(node)}")
        for path, node in nodes(ast.For, ast.While):
            self.assertEqual(node.orelse, [], path)
        for path, node in nodes(ast.Assign):
            self.assertEqual(len(node.targets), 1, path)
            self.assertNotIsInstance(node.targets[0], ast.Tuple, path)
        for path, node in nodes(ast.Constant):
            self.assertNotIsInstance(node.value, (float, bytes, complex), path)

    def test_comprehensions(self):
        for path, node in nodes(ast.ListComp):
            self.assertEqual(len(node.generators), 1, path)
            self.assertLessEqual(len(node.generators[0].ifs), 1, path)

    def test_is_stands_beside_none_true_and_false_alone(self):
        for path, node in nodes(ast.Compare):
            for sign, right in zip(node.ops, node.comparators):
                if isinstance(sign, (ast.Is, ast.IsNot)):
                    self.assertIn(ast.unparse(right), ("None", "True", "False"), path)

    def test_no_power_and_no_set(self):
        for path, node in nodes(ast.Pow, ast.Set):
            self.fail(path)
        for path, node in nodes(ast.Name):
            self.assertNotIn(node.id, ("set", "frozenset"), path)

    def test_a_class_holds_methods_alone(self):
        for path, node in nodes(ast.ClassDef):
            for part in node.body:
                self.assertIsInstance(part, ast.FunctionDef, path)

    def test_what_is_made_to_be_walked_is_walked_at_once(self):
        for path, node in nodes(ast.Assign, ast.Return):
            if isinstance(node.value, ast.Call):
                called = node.value.func
                name = called.id if isinstance(called, ast.Name) else called.attr
                self.assertNotIn(name, ("zip", "enumerate", "reversed", "range", "items", "keys", "values"), path)

    def test_no_two_files_draw_from_one_another(self):
        drawn = {path.stem: set() for path in files()}
        for path, node in nodes(ast.ImportFrom):
            drawn[path.stem].add(node.module.rpartition(".")[2])
        while drawn:
            free = [name for name, others in drawn.items() if not others & set(drawn)]
            self.assertNotEqual(free, [], drawn)
            for name in free:
                drawn.pop(name)

    def test_names(self):
        for path, node in nodes(ast.Name, ast.arg):
            name = node.id if isinstance(node, ast.Name) else node.arg
            self.assertRegex(name, r"^[A-Za-z]", path)
            self.assertNotIn(name, BARRED_NAMES, path)
            given = isinstance(node, ast.arg) or isinstance(node.ctx, ast.Store)
            if given or name not in OWN_NAMES:
                self.assertNotIn(name, dir(builtins), path)

    def test_methods(self):
        for path, node in nodes(ast.Call):
            if isinstance(node.func, ast.Attribute):
                self.assertIn(node.func.attr, OWN_METHODS | own_definitions(), path)

    def test_no_name_is_both_a_method_and_a_value(self):
        values = {node.attr for path, node in nodes(ast.Attribute) if isinstance(node.ctx, ast.Store)}
        self.assertEqual(values & own_definitions(), set())


if __name__ == "__main__":
    unittest.main()
