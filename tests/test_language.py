"""The package keeps to the small part of Python it is written in, as far as a glance at its syntax can tell."""

import ast
import pathlib
import re
import unittest

PACKAGE = pathlib.Path(__file__).resolve().parent.parent / "cleaningtanks"

NODES = (ast.Module, ast.ImportFrom, ast.alias, ast.FunctionDef, ast.ClassDef, ast.arguments, ast.arg, ast.Assign,
         ast.AugAssign, ast.If, ast.While, ast.For, ast.Return, ast.Break, ast.Continue, ast.Pass, ast.Expr, ast.Call,
         ast.Attribute, ast.Subscript, ast.Slice, ast.ListComp, ast.comprehension, ast.IfExp, ast.BoolOp, ast.BinOp,
         ast.UnaryOp, ast.Compare, ast.Constant, ast.Name, ast.List, ast.Tuple, ast.Dict, ast.keyword,
         ast.expr_context, ast.boolop, ast.operator, ast.unaryop, ast.cmpop)
OPERATORS_OUT = (ast.Div, ast.Pow, ast.MatMult, ast.Is, ast.IsNot)
OWN_OF_PYTHON = ("len", "range", "enumerate", "zip", "min", "max", "sum", "abs", "sorted", "reversed", "int", "str",
                 "bool", "list", "tuple", "dict", "set", "isinstance", "any", "all", "divmod")
METHODS = ("append", "extend", "pop", "values", "get", "items", "keys", "copy", "count", "index", "insert")
WORDS_OUT = ("type", "typing", "enum", "Enum", "Flag", "Generic", "Protocol", "ABC", "namedtuple", "NamedTuple",
             "register", "elements", "open", "input", "eval", "exec", "getattr", "setattr", "globals", "locals")


def files():
    return sorted(path for path in PACKAGE.iterdir() if path.name != "__pycache__")


class Language(unittest.TestCase):
    def test_files(self):
        names = [path.name for path in files()]
        self.assertTrue("__init__.py" in names and "tanks.py" in names)
        self.assertEqual([name for name in names if not re.fullmatch(r"[a-z0-9_]+\.py", name)], [])

    def test_sizes_and_signs(self):
        for path in files():
            text = path.read_text(encoding="utf-8")
            self.assertIsNone(re.search(r"[^ -~\n]", text), path)
            self.assertLessEqual(len(text.splitlines()), 400, path)
            self.assertLessEqual(max(len(line) for line in text.splitlines()), 120, path)
            for word in WORDS_OUT:
                self.assertIsNone(re.search(rf"\b{word}\b", text), (path, word))

    def test_syntax(self):
        for path in files():
            for node in ast.walk(ast.parse(path.read_text())):
                where = (path.name, getattr(node, "lineno", 0), ast.dump(node)[:80])
                self.assertIsInstance(node, NODES, where)
                self.assertNotIsInstance(node, OPERATORS_OUT, where)
                self.look_at(node, where)

    def look_at(self, node, where):
        if isinstance(node, ast.FunctionDef):
            self.assertLessEqual(node.end_lineno - node.lineno + 1, 40, where)
            self.assertFalse(node.decorator_list or node.returns or node.args.vararg or node.args.kwarg, where)
        if isinstance(node, ast.ImportFrom):
            self.assertTrue(node.level == 0 and node.module.startswith("cleaningtanks."), where)
        if isinstance(node, ast.Assign):
            self.assertTrue(len(node.targets) == 1 and not isinstance(node.targets[0], ast.Tuple), where)
        if isinstance(node, ast.Constant):
            self.assertIn(type(node.value), (int, str, bool), where)
        if isinstance(node, (ast.While, ast.For)):
            self.assertFalse(node.orelse, where)
        if isinstance(node, ast.Call) and isinstance(node.func, ast.Attribute):
            self.assertIn(node.func.attr, METHODS, where)

    def test_names_are_own_or_allowed(self):
        for path in files():
            tree = ast.parse(path.read_text())
            nodes = list(ast.walk(tree))
            own = {node.name for node in nodes if isinstance(node, (ast.FunctionDef, ast.ClassDef))}
            own |= {node.arg for node in nodes if isinstance(node, ast.arg)}
            own |= {node.name for node in nodes if isinstance(node, ast.alias)}
            own |= {node.id for node in nodes if isinstance(node, ast.Name) and isinstance(node.ctx, ast.Store)}
            self.assertFalse(own & set(dir(__import__("builtins"))), path)
            self.assertFalse([name for name in own if name.startswith("_") and name != "__init__"], path)
            read = {node.id for node in nodes if isinstance(node, ast.Name)}
            self.assertFalse(read - own - set(OWN_OF_PYTHON), path)


if __name__ == "__main__":
    unittest.main()
