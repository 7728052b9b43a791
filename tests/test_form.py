"""The package's files keep to their form: signs, sizes, no import, few of Python's own names."""

import ast
import builtins
import pathlib
import unittest

import gluedsquares

FOLDER = pathlib.Path(gluedsquares.__file__).parent
ALLOWED_OWN = {
    "len", "range", "enumerate", "zip", "min", "max", "sum", "abs", "sorted", "reversed", "int", "str", "bool",
    "list", "tuple", "dict", "set", "isinstance", "ord", "repr", "any", "all", "divmod", "NotImplementedError",
}
STATEMENTS = (
    ast.Assign, ast.AugAssign, ast.If, ast.While, ast.For, ast.Return, ast.Break, ast.Continue, ast.Pass, ast.Raise,
    ast.Expr, ast.FunctionDef, ast.ClassDef,
)
RULED_OUT = (
    ast.GeneratorExp, ast.SetComp, ast.DictComp, ast.NamedExpr, ast.Starred, ast.Div, ast.Set, ast.Lambda,
    ast.Is, ast.IsNot,
)


class Form(unittest.TestCase):
    def setUp(self):
        self.texts = {path.name: path.read_text("ascii") for path in FOLDER.glob("*.py")}
        self.trees = {name: ast.parse(text) for name, text in self.texts.items()}

    def nodes(self):
        return [node for tree in self.trees.values() for node in ast.walk(tree)]

    def test_only_plain_files_lie_there(self):
        names = {path.name for path in FOLDER.iterdir()} - {"__pycache__"}
        self.assertEqual(names, {"__init__.py", "surface.py"})

    def test_signs_and_sizes(self):
        for text in self.texts.values():
            self.assertTrue(all(sign == "\n" or " " <= sign <= "~" for sign in text))
            self.assertLessEqual(len(text.splitlines()), 400)
            self.assertLessEqual(max(len(line) for line in text.splitlines()), 120)
        for node in self.nodes():
            if isinstance(node, ast.FunctionDef):
                self.assertLessEqual(node.end_lineno - node.lineno + 1, 40, node.name)

    def test_nothing_is_imported(self):
        self.assertFalse([node for node in self.nodes() if isinstance(node, (ast.Import, ast.ImportFrom))])

    def test_statements_and_expressions(self):
        for node in self.nodes():
            if isinstance(node, ast.stmt):
                self.assertIsInstance(node, STATEMENTS, ast.dump(node))
            self.assertNotIsInstance(node, RULED_OUT, ast.dump(node))
            if isinstance(node, (ast.For, ast.While)):
                self.assertFalse(node.orelse)
            if isinstance(node, ast.Assign):
                self.assertEqual(len(node.targets), 1)
                self.assertIsInstance(node.targets[0], (ast.Name, ast.Attribute, ast.Subscript))
            if isinstance(node, ast.FunctionDef):
                self.assertFalse(node.decorator_list)

    def test_names(self):
        own = set(dir(builtins))
        for node in self.nodes():
            if isinstance(node, ast.Name):
                self.assertFalse(node.id.startswith("_"), node.id)
                if node.id in own:
                    self.assertIsInstance(node.ctx, ast.Load, node.id)
                    self.assertIn(node.id, ALLOWED_OWN)
            if isinstance(node, ast.arg):
                self.assertNotIn(node.arg, own)


if __name__ == "__main__":
    unittest.main()
