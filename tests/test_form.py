"""The form of the package's files: what a look at the code alone can tell."""

import ast
import builtins
import inspect
import pathlib
import re
import unittest

import takeover.places

PACKAGE = pathlib.Path(takeover.places.__file__).parent
FILES = sorted(PACKAGE.glob('*.py'))
NODES = {ast.Module, ast.FunctionDef, ast.arguments, ast.arg, ast.Expr, ast.Constant, ast.Assign, ast.If, ast.While,
         ast.For, ast.Return, ast.Break, ast.Continue, ast.Pass, ast.Name, ast.Load, ast.Store, ast.List, ast.Tuple,
         ast.Dict, ast.BinOp, ast.UnaryOp, ast.BoolOp, ast.Compare, ast.IfExp, ast.Call, ast.Attribute, ast.Subscript,
         ast.Slice, ast.ListComp, ast.comprehension, ast.keyword, ast.Add, ast.Sub, ast.Mult, ast.FloorDiv, ast.Mod,
         ast.BitAnd, ast.BitOr, ast.BitXor, ast.LShift, ast.RShift, ast.Invert, ast.USub, ast.Not, ast.And, ast.Or,
         ast.Eq, ast.NotEq, ast.Lt, ast.LtE, ast.Gt, ast.GtE, ast.In, ast.NotIn}
PYTHONS_OWN = {'len', 'range', 'enumerate', 'zip', 'min', 'max', 'sum', 'abs', 'sorted', 'reversed', 'int', 'list',
               'tuple', 'dict', 'any', 'all', 'divmod'}
METHODS = {'append', 'copy', 'count', 'extend', 'get', 'index', 'insert', 'items', 'keys', 'pop', 'values'}
WORDS_NOT_USED = ('type', 'typing', 'enum', 'Enum', 'Flag', 'Generic', 'Protocol', 'ABC', 'namedtuple')
INTERFACE = {'takes': '(n, a, b, s, weights)',
             'mean': '(n, a, b, weights)',
             'lasts': '(n, a, b, s, weights)',
             'heats': '(n, weights)',
             'best': '(n, a, b, weights)'}


class Form(unittest.TestCase):
    def test_the_files(self):
        names = sorted(path.name for path in PACKAGE.iterdir() if path.name != '__pycache__')
        self.assertEqual(names, ['__init__.py', 'places.py'])

    def test_lines(self):
        for path in FILES:
            text = path.read_bytes().decode('ascii')
            lines = text.split('\n')
            self.assertLessEqual(len(lines), 400)
            for line in lines:
                self.assertLessEqual(len(line), 120)
                self.assertTrue(all(' ' <= sign <= '~' for sign in line), line)
            for word in WORDS_NOT_USED:
                self.assertIsNone(re.search(rf'\b{word}\b', text))

    def test_the_part_of_the_language(self):
        for path in FILES:
            for node in ast.walk(ast.parse(path.read_text())):
                self.assertIn(type(node), NODES, f'{path.name}:{getattr(node, "lineno", 0)}')
                if isinstance(node, ast.Constant):
                    self.assertIn(type(node.value), (int, str, bool, type(None)))
                if isinstance(node, ast.Attribute):
                    self.assertIn(node.attr, METHODS)
                if isinstance(node, ast.FunctionDef):
                    self.assertLessEqual(node.end_lineno - node.lineno + 1, 40)
                if isinstance(node, ast.Assign):
                    self.assertEqual([type(target) in (ast.Name, ast.Subscript) for target in node.targets], [True])

    def test_the_names(self):
        for path in FILES:
            tree = ast.parse(path.read_text())
            bound = [node.id for node in ast.walk(tree) if isinstance(node, ast.Name) and type(node.ctx) is ast.Store]
            bound += [node.arg for node in ast.walk(tree) if isinstance(node, ast.arg)]
            bound += [node.name for node in ast.walk(tree) if isinstance(node, ast.FunctionDef)]
            for name in bound:
                self.assertRegex(name, '^[A-Za-z][A-Za-z0-9_]*$')
                self.assertNotIn(name, dir(builtins))
            read = {node.id for node in ast.walk(tree) if isinstance(node, ast.Name)}
            self.assertLessEqual(read - set(bound), PYTHONS_OWN)

    def test_the_interface(self):
        for name, parameters in INTERFACE.items():
            self.assertEqual(str(inspect.signature(getattr(takeover.places, name))), parameters)
        self.assertEqual(takeover.places.takes(n=2, a=1, b=1, s=1, weights=[0, 1, 1, 0]), [0, 500000])
        self.assertEqual(takeover.places.mean(n=2, a=1, b=1, weights=[0, 1, 1, 0]), [0, 500000])
        self.assertEqual(takeover.places.lasts(n=2, a=1, b=1, s=1, weights=[0, 1, 1, 0]), [0, 1000000])
        self.assertEqual(takeover.places.heats(n=2, weights=[0, 1, 1, 0]), [1, 1000000, 1000000])
        self.assertEqual(takeover.places.best(n=2, a=1, b=1, weights=[0, 1, 1, 0]), [3])


if __name__ == '__main__':
    unittest.main()
