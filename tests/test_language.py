"""Checks what of LANGUAGE.md can be seen in a file's rows and its syntax tree, for each file of the package."""

import ast
import builtins
import pathlib
import re
import unittest

FOLDER = pathlib.Path(__file__).resolve().parent.parent / "wrapwindow"
FILES = sorted(FOLDER.glob("*.py"))

KINDS = """
Module ImportFrom alias FunctionDef arguments arg ClassDef Assign AugAssign If While For Return Break Continue Pass
Raise Try ExceptHandler Expr Name Load Store Constant List Tuple Dict Set BinOp UnaryOp BoolOp Compare IfExp Call
keyword Attribute Subscript Slice ListComp comprehension JoinedStr FormattedValue Lambda
Add Sub Mult FloorDiv Mod Pow BitAnd BitOr BitXor LShift RShift Invert USub UAdd Not And Or
Eq NotEq Lt LtE Gt GtE Is IsNot In NotIn
""".split()

OWN_NAMES = """
len range enumerate zip min max sum abs sorted reversed int str bool list tuple dict set frozenset isinstance ord repr
any all divmod Exception ValueError TypeError KeyError IndexError LookupError ZeroDivisionError ArithmeticError
OverflowError RuntimeError NotImplementedError AttributeError StopIteration
""".split()

UNUSED_NAMES = """
register mro elements open input version_info with_traceback add_note attrgetter breakpoint builtins compile copyright
credits delattr dir eval exec exit gc getattr globals hasattr help id importlib license locals methodcaller os quit
setattr super type vars sys format format_map
""".split()

UNUSED_WORDS = """
type typing typing_extensions enum Enum IntEnum StrEnum Flag IntFlag Generic Protocol ABC ABCMeta namedtuple NamedTuple
TypedDict TYPE_CHECKING abstractmethod
""".split()

# The methods of Python's own values that may be called, and the keywords that its own names may have.
OWN_METHODS = """
append clear copy count endswith extend find get index insert isalnum isalpha isdigit islower isspace isupper items join
keys ljust lower lstrip partition pop remove replace reverse rfind rjust rpartition rsplit rstrip setdefault split
splitlines startswith strip update upper values zfill bit_length
""".split()
KEYWORDS = {
    "sorted": ("key", "reverse"), "min": ("key", "default"), "max": ("key", "default"), "sum": ("start",),
    "enumerate": ("start",), "zip": ("strict",),
}
WALKS = ("zip", "enumerate", "reversed", "range")
WALKERS = "list tuple dict sorted sum any all enumerate zip min max".split()

VALUES = (str, int, list, dict, set, bytes)
FREE_VALUES = "count index title find get join lower upper split strip copy add".split()


def bound_names(tree):
    for node in ast.walk(tree):
        if isinstance(node, ast.Name) and isinstance(node.ctx, ast.Store):
            yield node.id
        elif isinstance(node, ast.arg):
            yield node.arg
        elif isinstance(node, (ast.FunctionDef, ast.ClassDef)):
            yield node.name


class Language(unittest.TestCase):
    def setUp(self):
        self.texts = {path.name: path.read_text(encoding="utf-8") for path in FILES}
        self.trees = {name: ast.parse(text) for name, text in self.texts.items()}

    def each_node(self):
        for name, tree in self.trees.items():
            for node in ast.walk(tree):
                yield f"{name}:{getattr(node, 'lineno', 0)}", node

    def test_files(self):
        self.assertIn("links.py", self.texts)
        for path in FOLDER.rglob("*"):
            if "__pycache__" not in path.parts:
                self.assertRegex(path.name, r"^([a-z][a-z0-9_]*|__init__|__main__)\.py$")

    def test_rows(self):
        for name, text in self.texts.items():
            rows = text.split("\n")
            self.assertLessEqual(len(rows) - 1, 399, name)
            for place, row in enumerate(rows, start=1):
                self.assertLessEqual(len(row), 120, (name, place))
                self.assertRegex(row, r"^[ -~]*$", (name, place))
                for word in re.findall(r"\w+", row):
                    self.assertNotIn(word, UNUSED_WORDS, (name, place))
                    self.assertIsNone(re.search("dataclass|overload|contextmanager", word), (name, place))

    def test_statements_and_expressions(self):
        for where, node in self.each_node():
            if not isinstance(node, ast.Module) and hasattr(node, "lineno"):
                self.assertIn(node.__class__.__name__, KINDS, where)
            if isinstance(node, ast.Assign):
                self.assertEqual(len(node.targets), 1, where)
            if isinstance(node, (ast.For, ast.While)):
                self.assertEqual(node.orelse, [], where)
            if isinstance(node, ast.FunctionDef):
                self.assertLessEqual(node.end_lineno - node.lineno + 1, 40, where)
                self.assertEqual((node.decorator_list, node.args.vararg, node.args.kwarg), ([], None, None), where)
            if isinstance(node, ast.ListComp):
                self.assertEqual(len(node.generators), 1, where)
                self.assertLessEqual(len(node.generators[0].ifs), 1, where)

    def test_the_top_of_each_file(self):
        for name, tree in self.trees.items():
            self.assertIsNotNone(ast.get_docstring(tree), name)
            bound = []
            for node in tree.body[1:]:
                self.assertIn(type(node), (ast.ImportFrom, ast.FunctionDef, ast.ClassDef, ast.Assign), name)
                bound += [node.targets[0].id] if isinstance(node, ast.Assign) else []
                bound += [] if isinstance(node, (ast.Assign, ast.ImportFrom)) else [node.name]
                if isinstance(node, ast.ImportFrom):
                    self.assertTrue(node.module.startswith("wrapwindow."), name)
                    source = self.trees[node.module.split(".")[1] + ".py"]
                    bound += [alias.name for alias in node.names]
                    for alias in node.names:
                        self.assertIn(alias.name, list(bound_names(source)), name)
                if isinstance(node, ast.ClassDef):
                    self.assertEqual({type(part) for part in node.body}, {ast.FunctionDef}, name)
            self.assertEqual(len(bound), len(set(bound)), name)

    def test_names(self):
        for name, tree in self.trees.items():
            taken = [alias.name for node in tree.body if isinstance(node, ast.ImportFrom) for alias in node.names]
            for bound in bound_names(tree):
                self.assertNotIn(bound, taken + UNUSED_NAMES + dir(builtins), name)
                self.assertRegex(bound, r"^([A-Za-z][A-Za-z0-9_]*|__init__)$", name)
            known = set(bound_names(tree)) | set(taken) | set(OWN_NAMES)
            for node in ast.walk(tree):
                if isinstance(node, ast.Name):
                    self.assertIn(node.id, known, name)

    def test_methods_and_values(self):
        classes = [node for where, node in self.each_node() if isinstance(node, ast.ClassDef)]
        methods = {part.name for node in classes for part in node.body if part.name != "__init__"}
        values = {
            node.attr for where, node in self.each_node()
            if isinstance(node, ast.Attribute) and isinstance(node.ctx, ast.Store)
        }
        self.assertEqual(methods & values, set())
        for name in (methods | values) - set(FREE_VALUES):
            self.assertFalse(any(hasattr(kind, name) for kind in VALUES), name)
            self.assertNotIn(name, UNUSED_NAMES)

    def test_calls(self):
        methods = {node.name for where, node in self.each_node() if isinstance(node, ast.FunctionDef)}
        for where, node in self.each_node():
            if isinstance(node, ast.Call) and isinstance(node.func, ast.Attribute):
                self.assertIn(node.func.attr, methods | set(OWN_METHODS), where)
                self.assertEqual(node.keywords, [], where)
            elif isinstance(node, ast.Call):
                for keyword in node.keywords:
                    self.assertIn(keyword.arg, KEYWORDS.get(node.func.id, ()), where)

    def test_what_is_walked_at_once(self):
        for name, tree in self.trees.items():
            walked = [node.iter for node in ast.walk(tree) if isinstance(node, (ast.For, ast.comprehension))]
            for node in ast.walk(tree):
                if isinstance(node, ast.Call) and isinstance(node.func, ast.Name) and node.func.id in WALKERS:
                    walked += node.args
            for node in ast.walk(tree):
                if isinstance(node, ast.Call) and isinstance(node.func, ast.Name) and node.func.id in WALKS:
                    self.assertTrue(any(node is other for other in walked), (name, node.lineno))

    def test_tables_hold_no_list_and_no_dict_and_are_not_changed(self):
        for name, tree in self.trees.items():
            tops = [node for node in tree.body if isinstance(node, ast.Assign)]
            for node in tops:
                within = list(ast.walk(node.value))[1:]
                self.assertFalse(any(isinstance(part, (ast.List, ast.Dict)) for part in within), (name, node.lineno))
            names = [node.targets[0].id for node in tops]
            for node in ast.walk(tree):
                changed = isinstance(node, ast.Subscript) and not isinstance(node.ctx, ast.Load)
                if (changed or isinstance(node, ast.Attribute)) and isinstance(node.value, ast.Name):
                    self.assertNotIn(node.value.id, names, (name, node.lineno))

    def test_no_two_files_draw_from_one_another(self):
        drawn = {
            name: [node.module.split(".")[1] + ".py" for node in tree.body if isinstance(node, ast.ImportFrom)]
            for name, tree in self.trees.items()
        }
        while drawn:
            free = [name for name, sources in drawn.items() if not set(sources) & set(drawn)]
            self.assertNotEqual(free, [], drawn)
            drawn = {name: sources for name, sources in drawn.items() if name not in free}


if __name__ == "__main__":
    unittest.main()
