"""The package keeps to its small part of Python: what of that can be seen from its files."""

import ast
import builtins
import pathlib
import re
import unittest

PACKAGE = pathlib.Path(__file__).parent.parent / "goneoak"
FILES = sorted(path for path in PACKAGE.rglob("*") if path.is_file() and "__pycache__" not in path.parts)

OWN_NAMES = set(
    "len range enumerate zip min max sum abs sorted reversed int str bool list tuple dict set frozenset"
    " isinstance ord repr any all divmod Exception ValueError TypeError KeyError IndexError LookupError"
    " ZeroDivisionError ArithmeticError OverflowError RuntimeError NotImplementedError AttributeError"
    " StopIteration".split()
)
METHODS = set(
    "append clear copy count endswith extend find get index insert isalnum isalpha isdigit islower isspace"
    " isupper items join keys ljust lower lstrip partition pop remove replace reverse rfind rjust rpartition"
    " rsplit rstrip setdefault split splitlines startswith strip update upper values zfill bit_length".split()
)
BARRED_NODES = (
    ast.Import, ast.With, ast.Match, ast.Delete, ast.Global, ast.Nonlocal, ast.Assert, ast.Yield,
    ast.YieldFrom, ast.Await, ast.AsyncFunctionDef, ast.AsyncFor, ast.AsyncWith, ast.SetComp, ast.DictComp,
    ast.GeneratorExp, ast.NamedExpr, ast.Starred, ast.Div, ast.MatMult, ast.Is, ast.IsNot, ast.AnnAssign,
)
BARRED_WORDS = re.compile(
    r"\b(type|typing|typing_extensions|enum|Enum|IntEnum|StrEnum|Flag|IntFlag|Generic|Protocol|ABC|ABCMeta"
    r"|namedtuple|NamedTuple|TypedDict|TYPE_CHECKING|abstractmethod)\b|dataclass|overload|contextmanager"
)


def trees():
    return [(path.name, ast.parse(path.read_text())) for path in FILES]


def nodes(*kinds):
    return [(name, node) for name, tree in trees() for node in ast.walk(tree) if isinstance(node, kinds)]


def bound_at_the_top(tree):
    names = [node.name for node in tree.body if isinstance(node, (ast.FunctionDef, ast.ClassDef))]
    return names + [node.targets[0].id for node in tree.body if isinstance(node, ast.Assign)]


class Language(unittest.TestCase):
    def test_only_plainly_named_files_of_the_package_itself(self):
        self.assertIn("pegs.py", [path.name for path in FILES])
        for path in FILES:
            self.assertRegex(path.name, r"^([a-z][a-z0-9_]*|__init__)\.py$")
            self.assertEqual(path.parent, PACKAGE)

    def test_signs_and_sizes(self):
        for path in FILES:
            rows = path.read_bytes().decode("ascii").split("\n")
            self.assertLessEqual(len(rows), 401, path)
            for row in rows:
                self.assertRegex(row, r"^[ -~]{0,120}$", path)
                self.assertIsNone(BARRED_WORDS.search(row), row)

    def test_functions_have_at_most_40_rows(self):
        for name, node in nodes(ast.FunctionDef):
            self.assertLessEqual(node.end_lineno - node.lineno + 1, 40, (name, node.name))

    def test_only_the_packages_own_is_drawn_in_and_from_where_it_is_defined(self):
        drawn = {}
        for name, tree in trees():
            rows = [node for node in ast.walk(tree) if isinstance(node, ast.ImportFrom)]
            first_others = [node for node in tree.body[1:] if not isinstance(node, ast.ImportFrom)][:1]
            drawn[name] = []
            for row in rows:
                self.assertEqual(row.level, 0, name)
                self.assertRegex(row.module, r"^goneoak\.[a-z]+$", name)
                self.assertTrue(all(row.lineno < other.lineno for other in first_others), name)
                source = row.module.split(".")[1] + ".py"
                defined = bound_at_the_top(dict(trees())[source])
                self.assertEqual([alias.name for alias in row.names if alias.name not in defined or alias.asname], [])
                drawn[name].append(source)
        self.assertEqual(drawn, {"__init__.py": [], "pegs.py": ["sayings.py"], "sayings.py": []})

    def test_a_name_is_bound_once_at_the_top_and_none_is_called_like_an_import_or_a_class(self):
        for name, tree in trees():
            drawn = [alias.name for node in tree.body if isinstance(node, ast.ImportFrom) for alias in node.names]
            bound = bound_at_the_top(tree) + drawn
            self.assertEqual(len(bound), len(set(bound)), name)
            classes = [node.name for node in tree.body if isinstance(node, ast.ClassDef)]
            for node in ast.walk(tree):
                if isinstance(node, ast.arg):
                    self.assertNotIn(node.arg, drawn + classes, (name, node.lineno))
                if isinstance(node, ast.Name) and isinstance(node.ctx, ast.Store):
                    self.assertNotIn(node.id, drawn + classes, (name, node.lineno))

    def test_nothing_else_that_is_barred(self):
        found = [one for one in nodes(ast.stmt, ast.expr) if isinstance(one[1], BARRED_NODES)]
        self.assertEqual([(name, node.lineno) for name, node in found], [])
        self.assertEqual(nodes(ast.Div, ast.MatMult, ast.Is, ast.IsNot, ast.Starred), [])

    def test_functions_and_classes_are_plain(self):
        for name, node in nodes(ast.FunctionDef, ast.ClassDef):
            self.assertEqual(node.decorator_list, [], (name, node.name))
        for name, node in nodes(ast.FunctionDef):
            self.assertEqual((node.args.vararg, node.args.kwarg, node.args.kwonlyargs), (None, None, []), name)
        for name, node in nodes(ast.Assign):
            self.assertEqual(len(node.targets), 1, (name, node.lineno))

    def test_names(self):
        own = set(dir(builtins))
        for name, node in nodes(ast.Name):
            self.assertRegex(node.id, r"^[A-Za-z]\w*$", (name, node.lineno))
            if isinstance(node.ctx, ast.Store):
                self.assertNotIn(node.id, own, (name, node.lineno))
            elif node.id in own:
                self.assertIn(node.id, OWN_NAMES, (name, node.lineno))
        for name, node in nodes(ast.arg):
            self.assertNotIn(node.arg, own, (name, node.lineno))

    def test_methods(self):
        defined = {node.name for name, node in nodes(ast.FunctionDef)}
        for name, node in nodes(ast.Call):
            if isinstance(node.func, ast.Attribute):
                self.assertIn(node.func.attr, METHODS | defined, (name, node.lineno))

    def test_values_are_whole_numbers_and_texts(self):
        for name, node in nodes(ast.Constant):
            self.assertIn(type(node.value), (int, str, bool, type(None)), (name, node.lineno))


if __name__ == "__main__":
    unittest.main()
