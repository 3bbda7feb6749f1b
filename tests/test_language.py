"""The rules of the language that can be seen by counting and by looking for words."""

import ast
import builtins
import os
import re
import unittest

PACKAGE = os.path.join(os.path.dirname(os.path.dirname(os.path.abspath(__file__))), "wavyrow")
BARRED = ("type typing typing_extensions enum Enum IntEnum StrEnum Flag IntFlag Generic Protocol ABC ABCMeta"
          " namedtuple NamedTuple TypedDict TYPE_CHECKING abstractmethod").split()
BARRED_STATEMENTS = (ast.With, ast.Global, ast.Nonlocal, ast.Yield, ast.YieldFrom, ast.GeneratorExp,
                     ast.NamedExpr, ast.Div, ast.Import, ast.Match)


def files():
    for name in sorted(os.listdir(PACKAGE)):
        if name != "__pycache__":
            with open(os.path.join(PACKAGE, name), encoding="utf-8") as file:
                yield name, file.read()


class Language(unittest.TestCase):

    def test_files(self):
        for name, text in files():
            self.assertRegex(name, r"\A(__init__|__main__|[a-z][a-z0-9_]*)\.py\Z")
            self.assertEqual(re.findall(r"[^\n -~]", text), [], name)
            lines = text.split("\n")
            self.assertLessEqual(len(lines), 400, name)
            self.assertLessEqual(max(len(line) for line in lines), 120, name)

    def test_words(self):
        for name, text in files():
            words = re.findall(r"\w+", text)
            self.assertEqual([word for word in words if word in BARRED], [], name)
            self.assertEqual(re.findall(r"dataclass|overload|contextmanager", text), [], name)

    def test_trees(self):
        for name, text in files():
            for node in ast.walk(ast.parse(text)):
                where = f"{name}, {ast.dump(node)[:80]}"
                self.assertNotIsInstance(node, BARRED_STATEMENTS, where)
                if isinstance(node, ast.FunctionDef):
                    self.assertLessEqual(node.end_lineno - node.lineno + 1, 40, where)
                    self.assertEqual(node.decorator_list, [], where)
                if isinstance(node, ast.ImportFrom):
                    self.assertTrue(node.module == "__future__" or node.module.startswith("wavyrow."), where)
                if isinstance(node, ast.Constant):
                    self.assertNotIsInstance(node.value, (float, complex), where)
                    self.assertNotIn("%", str(node.value), where)

    def test_local_names(self):
        for name, text in files():
            tree = ast.parse(text)
            taken = set(dir(builtins))
            for node in tree.body:
                if isinstance(node, ast.ClassDef):
                    taken.add(node.name)
                elif isinstance(node, ast.ImportFrom):
                    taken.update(alias.asname or alias.name for alias in node.names)
            bound = [node.arg for node in ast.walk(tree) if isinstance(node, ast.arg)]
            bound += [node.id for node in ast.walk(tree) if isinstance(node, ast.Name)
                      and isinstance(node.ctx, ast.Store)]
            self.assertEqual([each for each in bound if each in taken or each.startswith("_")], [], name)

    def test_methods_and_attributes(self):
        methods, attributes = set(), set()
        for name, text in files():
            for node in ast.walk(ast.parse(text)):
                if isinstance(node, ast.ClassDef):
                    methods.update(each.name for each in node.body if isinstance(each, ast.FunctionDef))
                if isinstance(node, ast.Attribute) and isinstance(node.ctx, ast.Store):
                    attributes.add(node.attr)
        self.assertEqual(methods & attributes, set())


if __name__ == "__main__":
    unittest.main()
