"""The package's files keep to their form: signs, sizes, no import, few of Python's own names and methods."""

import ast
import builtins
import pathlib
import re
import unittest

import gluedsquares

FOLDER = pathlib.Path(gluedsquares.__file__).parent
ALLOWED_OWN = {
    "len", "range", "enumerate", "zip", "min", "max", "sum", "abs", "sorted", "reversed", "int", "str", "bool",
    "list", "tuple", "dict", "set", "isinstance", "ord", "repr", "any", "all", "divmod",
}
ALLOWED_METHODS = {
    "append", "clear", "copy", "count", "endswith", "extend", "find", "get", "index", "insert", "isalnum", "isalpha",
    "isdigit", "islower", "isspace", "isupper", "items", "join", "keys", "ljust", "lower", "lstrip", "partition", "pop",
    "remove", "replace", "reverse", "rfind", "rjust", "rpartition", "rsplit", "rstrip", "setdefault", "split",
    "splitlines", "startswith", "strip", "update", "upper", "values", "zfill", "bit_length",
}
WORDS_RULED_OUT = re.compile(
    r"\b(type|typing|typing_extensions|enum|Enum|IntEnum|StrEnum|Flag|IntFlag|Generic|Protocol|ABC|ABCMeta|namedtuple"
    r"|NamedTuple|TypedDict|TYPE_CHECKING|abstractmethod)\b|dataclass|overload|contextmanager"
)
STATEMENTS = (
    ast.Assign, ast.AugAssign, ast.If, ast.While, ast.For, ast.Return, ast.Break, ast.Continue, ast.Pass, ast.Raise,
    ast.Expr, ast.FunctionDef, ast.ClassDef,
)
RULED_OUT = (
    ast.GeneratorExp, ast.SetComp, ast.DictComp, ast.NamedExpr, ast.Starred, ast.Div, ast.Set, ast.Lambda,
    ast.Is, ast.IsNot, ast.JoinedStr, ast.AnnAssign,
)


class Form(unittest.TestCase):
    def setUp(self):
        self.texts = {path.name: path.read_text("ascii") for path in FOLDER.glob("*.py")}
        self.trees = {name: ast.parse(text) for name, text in self.texts.items()}

    def nodes(self):
        return [node for tree in self.trees.values() for node in ast.walk(tree)]

    def test_only_plain_files_lie_there(self):
        names = {path.name for path in FOLDER.iterdir()} - {"__pycache__"}
        self.assertEqual(names, {"__init__.py", "surface.py"})

    def test_signs_and_sizes(self):
        for text in self.texts.values():
            self.assertTrue(all(sign == "\n" or " " <= sign <= "~" for sign in text))
            self.assertLessEqual(len(text.splitlines()), 400)
            self.assertLessEqual(max(len(line) for line in text.splitlines()), 120)
        for node in self.nodes():
            if isinstance(node, ast.FunctionDef):
                self.assertLessEqual(node.end_lineno - node.lineno + 1, 40, node.name)

    def test_nothing_is_imported(self):
        self.assertFalse([node for node in self.nodes() if isinstance(node, (ast.Import, ast.ImportFrom))])

    def test_statements_and_expressions(self):
        for node in self.nodes():
            if isinstance(node, ast.stmt):
                self.assertIsInstance(node, STATEMENTS, ast.dump(node))
            self.assertNotIsInstance(node, RULED_OUT, ast.dump(node))
            if isinstance(node, (ast.For, ast.While)):
                self.assertFalse(node.orelse)
            if isinstance(node, ast.Assign):
                self.assertEqual(len(node.targets), 1)
                self.assertIsInstance(node.targets[0], (ast.Name, ast.Attribute, ast.Subscript))
            if isinstance(node, ast.FunctionDef):
                self.assertFalse(node.decorator_list)

    def test_names(self):
        own = set(dir(builtins))
        for node in self.nodes():
            if isinstance(node, ast.Name):
                self.assertFalse(node.id.startswith("_"), node.id)
                if node.id in own:
                    self.assertIsInstance(node.ctx, ast.Load, node.id)
                    self.assertIn(node.id, ALLOWED_OWN)
            if isinstance(node, ast.arg):
                self.assertNotIn(node.arg, own)

    def test_words_that_stand_nowhere(self):
        for text in self.texts.values():
            self.assertIsNone(WORDS_RULED_OUT.search(text))

    def test_names_at_the_top_are_bound_once_to_plain_values(self):
        for tree in self.trees.values():
            bound = [node.name for node in tree.body if isinstance(node, (ast.FunctionDef, ast.ClassDef))]
            for node in tree.body:
                if isinstance(node, ast.Assign):
                    bound.append(node.targets[0].id)
                    self.assertIsInstance(ast.literal_eval(node.value), (int, str, tuple))
            self.assertEqual(len(bound), len(set(bound)))

    def test_own_methods_and_values(self):
        taken = {word for kind in (str, int, list, dict, set, bytes, tuple) for word in dir(kind)}
        classes = [node for node in self.nodes() if isinstance(node, ast.ClassDef)]
        methods = [part.name for node in classes for part in node.body if isinstance(part, ast.FunctionDef)]
        values = {node.attr for node in self.nodes() if isinstance(node, ast.Attribute)
                  and isinstance(node.ctx, ast.Store)}
        self.assertFalse((set(methods) - {"__init__"}) & taken)
        self.assertFalse(values & (taken | set(methods)))
        used = {node.attr for node in self.nodes() if isinstance(node, ast.Attribute)}
        self.assertLessEqual(used - values - set(methods), ALLOWED_METHODS)

    def test_comprehensions_have_one_for_and_at_most_one_if(self):
        for node in self.nodes():
            if isinstance(node, ast.ListComp):
                self.assertEqual(len(node.generators), 1)
                self.assertLessEqual(len(node.generators[0].ifs), 1)


if __name__ == "__main__":
    unittest.main()
