"""The package's files keep to the rules of the language that can be seen."""

import ast
import pathlib
import re
import unittest

PACKAGE = pathlib.Path(__file__).resolve().parent.parent / "firsttree"
FILES = sorted(path for path in PACKAGE.rglob("*") if "__pycache__" not in path.parts)

NODES = (
    "Module Expr Constant ImportFrom alias FunctionDef arguments arg ClassDef Return Assign AugAssign If While For "
    "Break Continue Pass Raise Try ExceptHandler Name Load Store Attribute Subscript Slice Call keyword List Tuple Dict "
    "BinOp UnaryOp BoolOp Compare IfExp ListComp comprehension Lambda JoinedStr FormattedValue "
    "Add Sub Mult FloorDiv Mod BitAnd BitOr BitXor LShift RShift Invert USub Not And Or "
    "Eq NotEq Lt LtE Gt GtE Is IsNot In NotIn"
).split()
BUILTINS = (
    "len range enumerate zip min max sum abs sorted reversed int str bool list tuple dict set frozenset isinstance ord "
    "repr any all divmod ValueError KeyError IndexError LookupError ZeroDivisionError Exception"
).split()
METHODS = (
    "append clear copy count endswith extend find get index insert isalnum isalpha isdigit islower isspace isupper "
    "items join keys ljust lower lstrip partition pop remove replace reverse rfind rjust rpartition rsplit rstrip "
    "setdefault split splitlines startswith strip update upper values zfill bit_length"
).split()
WORDS = re.compile(
    r"\b(type|typing|typing_extensions|enum|Enum|IntEnum|StrEnum|Flag|IntFlag|Generic|Protocol|ABC|ABCMeta|namedtuple|"
    r"NamedTuple|TypedDict|TYPE_CHECKING|abstractmethod|register|mro|elements|open|input)\b|"
    r"dataclass|overload|contextmanager"
)
PYTHONS_OWN = set(dir(str)) | set(dir(int)) | set(dir(list)) | set(dir(dict)) | set(dir(set)) | set(dir(bytes))
BUILT_IN = set(dir(__builtins__)) if not isinstance(__builtins__, dict) else set(__builtins__)


def names_of(tree):
    """Each name that is bound anywhere in a file."""
    found = []
    for node in ast.walk(tree):
        if isinstance(node, (ast.FunctionDef, ast.ClassDef)):
            found.append(node.name)
        elif isinstance(node, ast.arg):
            found.append(node.arg)
        elif isinstance(node, ast.Name) and isinstance(node.ctx, ast.Store):
            found.append(node.id)
        elif isinstance(node, ast.Attribute) and isinstance(node.ctx, ast.Store):
            found.append(node.attr)
    return found


def methods_and_values(trees):
    methods = set()
    values = set()
    for tree in trees:
        for node in ast.walk(tree):
            if isinstance(node, ast.ClassDef):
                methods.update(each.name for each in node.body)
            if isinstance(node, ast.Attribute) and isinstance(node.ctx, ast.Store):
                values.add(node.attr)
    return methods - {"__init__"}, values


class TestLanguage(unittest.TestCase):
    def setUp(self):
        self.texts = {path: path.read_text(encoding="utf-8") for path in FILES}
        self.trees = {path: ast.parse(text) for path, text in self.texts.items()}

    def test_files(self):
        self.assertIn(PACKAGE / "__init__.py", FILES)
        for path in FILES:
            self.assertRegex(path.name, r"\A([a-z][a-z0-9_]*|__init__|__main__)\.py\Z")
            self.assertNotIn(path.stem, BUILT_IN)

    def test_signs_and_lengths(self):
        for path, text in self.texts.items():
            self.assertRegex(text, r"\A[ -~\n]*\Z", path)
            self.assertIsNone(WORDS.search(text), path)
            self.assertLessEqual(text.count("\n"), 400)
            self.assertLessEqual(max(len(line) for line in text.split("\n")), 120)

    def test_functions_are_short_and_plain(self):
        for tree in self.trees.values():
            for node in ast.walk(tree):
                if isinstance(node, ast.FunctionDef):
                    self.assertLessEqual(node.end_lineno - node.lineno + 1, 40)
                    self.assertEqual(node.decorator_list, [])
                    self.assertIsNone(node.args.vararg or node.args.kwarg or node.returns)
                    self.assertEqual(node.args.kwonlyargs + node.args.posonlyargs, [])

    def test_statements_and_expressions(self):
        for path, tree in self.trees.items():
            for node in ast.walk(tree):
                self.assertIn(type(node).__name__, NODES, path)
                if isinstance(node, ast.Constant):
                    self.assertIn(type(node.value), (int, str, bool, type(None)))
                if isinstance(node, (ast.For, ast.While)):
                    self.assertEqual(node.orelse, [])
                if isinstance(node, ast.Assign):
                    self.assertEqual([type(target).__name__ in ("Name", "Attribute", "Subscript")
                                      for target in node.targets], [True])

    def test_expressions_by_themselves_are_calls(self):
        for tree in self.trees.values():
            docstring = tree.body[0]
            self.assertIsInstance(ast.get_docstring(tree), str)
            for node in ast.walk(tree):
                if isinstance(node, ast.Expr) and node is not docstring:
                    self.assertIsInstance(node.value, ast.Call)

    def test_top_of_a_file(self):
        for path, tree in self.trees.items():
            for node in tree.body[1:]:
                self.assertIsInstance(node, (ast.ImportFrom, ast.FunctionDef, ast.ClassDef, ast.Assign), path)
                if isinstance(node, ast.Assign):
                    ast.literal_eval(node.value)

    def test_imports(self):
        drawn = {}
        for path, tree in self.trees.items():
            drawn[path.stem] = []
            for node in ast.walk(tree):
                if isinstance(node, ast.ImportFrom):
                    self.assertIn(node, tree.body)
                    self.assertEqual(node.level, 0)
                    home = node.module.split(".")
                    self.assertEqual((home[0], len(home)), ("firsttree", 2))
                    defined = self.top_names(self.trees[PACKAGE / (home[1] + ".py")])
                    for each in node.names:
                        self.assertIn(each.name, defined)
                        self.assertIsNone(each.asname)
                    drawn[path.stem].append(home[1])
        while drawn:
            free = [name for name in drawn if not any(other in drawn for other in drawn[name])]
            self.assertNotEqual(free, [], "files draw from one another")
            for name in free:
                drawn.pop(name)

    def top_names(self, tree):
        found = []
        for node in tree.body:
            if isinstance(node, (ast.FunctionDef, ast.ClassDef)):
                found.append(node.name)
            if isinstance(node, ast.Assign):
                found.append(node.targets[0].id)
        self.assertEqual(len(found), len(set(found)))
        return found

    def test_names(self):
        for path, tree in self.trees.items():
            for name in names_of(tree):
                self.assertRegex(name, r"\A([A-Za-z][A-Za-z0-9_]*|__init__)\Z")
                self.assertNotIn(name, BUILT_IN, path)

    def test_locals_are_not_called_like_imports_or_classes(self):
        for path, tree in self.trees.items():
            taken = {each.name for node in ast.walk(tree) if isinstance(node, ast.ImportFrom) for each in node.names}
            taken |= {node.name for node in tree.body if isinstance(node, ast.ClassDef)}
            for node in ast.walk(tree):
                if isinstance(node, ast.FunctionDef):
                    inner = [each.arg for each in node.args.args]
                    inner += [each.id for each in ast.walk(node) if isinstance(each, ast.Name) and each.ctx.__class__ is ast.Store]
                    self.assertEqual(taken & set(inner), set(), path)

    def test_every_name_of_a_files_top_is_used(self):
        used = {"answers"}
        for tree in self.trees.values():
            for node in ast.walk(tree):
                if isinstance(node, ast.Name) and isinstance(node.ctx, ast.Load):
                    used.add(node.id)
        for path, tree in self.trees.items():
            self.assertEqual(set(self.top_names(tree)) - used, set(), path)

    def test_walked_at_once(self):
        for path, text in self.texts.items():
            for line in text.split("\n"):
                if re.search(r"\b(zip|enumerate|reversed|range)\(|\.(items|keys|values)\(\)", line):
                    self.assertRegex(line, r" in (zip|enumerate|reversed|range|[a-z_.]+\.(items|keys|values))\(", path)

    def test_own_methods_and_values(self):
        methods, values = methods_and_values(self.trees.values())
        self.assertEqual(methods & values, set())
        self.assertEqual((methods | values) & PYTHONS_OWN, set())

    def test_names_that_are_used(self):
        methods, values = methods_and_values(self.trees.values())
        for path, tree in self.trees.items():
            bound = set(names_of(tree))
            for node in ast.walk(tree):
                if isinstance(node, ast.alias):
                    bound.add(node.name)
            for node in ast.walk(tree):
                if isinstance(node, ast.Name) and node.id not in bound:
                    self.assertIn(node.id, BUILTINS, path)
                if isinstance(node, ast.Attribute):
                    self.assertIn(node.attr, METHODS + sorted(methods | values), path)

    def test_is_stands_beside_none(self):
        for tree in self.trees.values():
            for node in ast.walk(tree):
                if isinstance(node, ast.Compare) and isinstance(node.ops[0], (ast.Is, ast.IsNot)):
                    self.assertIsInstance(node.comparators[0], ast.Constant)


if __name__ == "__main__":
    unittest.main()
