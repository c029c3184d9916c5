"""What of the rules of the language can be seen in the package's files."""

import ast
import builtins
import pathlib
import re
import unittest

PACKAGE = pathlib.Path(__file__).resolve().parent.parent / "lineedits"

NODES = """Module Expr Constant ImportFrom alias FunctionDef ClassDef arguments arg Assign AugAssign Return If While For
Break Continue Pass Raise Try ExceptHandler Call Attribute Subscript Slice Name Load Store List Tuple Dict keyword
ListComp comprehension IfExp BoolOp And Or UnaryOp Not USub BinOp Add Sub Mult FloorDiv Mod Compare Eq NotEq Lt LtE Gt
GtE In NotIn Is IsNot""".split()

BUILT_IN = """len range enumerate zip min max sum abs sorted reversed int str bool list tuple dict isinstance ord repr
any all divmod Exception""".split()

METHODS = """append clear copy count endswith extend find get index insert items join keys pop remove replace reverse
setdefault split startswith strip update values""".split()

WORDS = """type typing enum Enum Flag Generic Protocol ABC namedtuple NamedTuple TypedDict abstractmethod register mro
elements open input eval exec getattr setattr hasattr globals locals vars dir id super""".split()


class LanguageTest(unittest.TestCase):
    def setUp(self):
        self.paths = sorted(PACKAGE.glob("*.py"))
        self.trees = [(path, ast.parse(path.read_text())) for path in self.paths]

    def walked(self):
        return [(path.name, node) for path, tree in self.trees for node in ast.walk(tree)]

    def test_nothing_else_lies_in_the_package(self):
        others = [path.name for path in PACKAGE.iterdir() if path not in self.paths and path.name != "__pycache__"]
        self.assertEqual(others, [])

    def test_signs_and_sizes(self):
        for path in self.paths:
            rows = path.read_bytes().decode("ascii").split("\n")
            self.assertLess(len(rows), 400, path.name)
            for line in rows:
                self.assertTrue(len(line) <= 120 and all(" " <= sign <= "~" for sign in line), (path.name, line))
        for name, node in self.walked():
            if isinstance(node, ast.FunctionDef):
                self.assertLessEqual(node.end_lineno - node.lineno + 1, 40, (name, node.name))

    def test_words_that_stand_nowhere(self):
        for path in self.paths:
            words = set(re.findall(r"\w+", path.read_text()))
            self.assertEqual(words & set(WORDS), set(), path.name)

    def test_statements_and_expressions(self):
        for name, node in self.walked():
            self.assertIn(type(node).__name__, NODES, (name, getattr(node, "lineno", 0)))
            if isinstance(node, ast.Assign):
                self.assertEqual(len(node.targets), 1, name)
            if isinstance(node, ast.Constant):
                self.assertIn(type(node.value), (int, str, bool, type(None)), name)

    def test_imports(self):
        drawn = {}
        for path, tree in self.trees:
            drawn[path.stem] = set()
            for node in tree.body:
                if isinstance(node, ast.ImportFrom):
                    self.assertRegex(node.module, r"^lineedits\.[a-z]+$")
                    drawn[path.stem].add(node.module.split(".")[1])
        while drawn:
            free = [stem for stem in drawn if not drawn[stem] & set(drawn)]
            self.assertTrue(free, f"files that draw from one another: {sorted(drawn)}")
            for stem in free:
                del drawn[stem]

    def test_methods_and_values_of_objects(self):
        methods, values = set(), set()
        for name, node in self.walked():
            if isinstance(node, ast.ClassDef):
                methods |= {part.name for part in node.body if isinstance(part, ast.FunctionDef)}
            if isinstance(node, ast.Attribute) and isinstance(node.ctx, ast.Store):
                values.add(node.attr)
        self.assertEqual(methods & values, set())
        taken = set(dir(str) + dir(int) + dir(list) + dir(dict) + dir(set) + dir(bytes)) - {"__init__"}
        self.assertEqual((methods | values) & taken, set())

    def test_python_own_names(self):
        for path, tree in self.trees:
            names = [node for node in ast.walk(tree) if isinstance(node, ast.Name)]
            bound = {node.id for node in names if isinstance(node.ctx, ast.Store)}
            bound |= {node.arg for node in ast.walk(tree) if isinstance(node, ast.arg)}
            bound |= {node.name for node in ast.walk(tree) if isinstance(node, (ast.FunctionDef, ast.ClassDef))}
            bound |= {node.name for node in ast.walk(tree) if isinstance(node, ast.ExceptHandler)}
            drawn = {node.name for node in ast.walk(tree) if isinstance(node, ast.alias)}
            used = {node.id for node in names}
            known = set(dir(builtins))
            self.assertEqual(bound & (known | drawn), set(), path.name)
            self.assertEqual(used - bound - drawn - set(BUILT_IN), set(), path.name)

    def test_methods_that_are_called(self):
        own = {node.name for name, node in self.walked() if isinstance(node, ast.FunctionDef)}
        for name, node in self.walked():
            if isinstance(node, ast.Call) and isinstance(node.func, ast.Attribute):
                self.assertIn(node.func.attr, own | set(METHODS), name)


if __name__ == "__main__":
    unittest.main()
