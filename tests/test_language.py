"""The plain part of Python that the package keeps to, as far as a short look at its files can tell."""

import ast
import builtins
import os
import unittest

PACKAGE = os.path.join(os.path.dirname(os.path.dirname(os.path.abspath(__file__))), "songkin")
# Statements and expressions that the package does without.
LEFT_OUT = (ast.With, ast.Match, ast.Delete, ast.Global, ast.Nonlocal, ast.Assert, ast.Yield, ast.YieldFrom,
            ast.AsyncFunctionDef, ast.Await, ast.SetComp, ast.DictComp, ast.GeneratorExp, ast.NamedExpr,
            ast.Starred, ast.Div, ast.Import, ast.AnnAssign)
# Python's own names, and the methods of its values, that the package makes do with.
OWN_NAMES = """len range enumerate zip min max sum abs sorted reversed int str bool list tuple dict set frozenset isinstance
ord repr any all divmod Exception ValueError TypeError KeyError IndexError LookupError ZeroDivisionError ArithmeticError
OverflowError RuntimeError NotImplementedError AttributeError StopIteration""".split()
OWN_METHODS = """append clear copy count endswith extend find get index insert isalnum isalpha isdigit islower isspace
isupper items join keys ljust lower lstrip partition pop remove replace reverse rfind rjust rpartition rsplit rstrip
setdefault split splitlines startswith strip update upper values zfill bit_length""".split()


class Language(unittest.TestCase):
    def files(self):
        names = sorted(name for name in os.listdir(PACKAGE) if name != "__pycache__")
        self.assertIn("family.py", names)
        for name in names:
            with self.subTest(name=name):
                self.assertRegex(name, r"^[a-z0-9_]+\.py$")
                with open(os.path.join(PACKAGE, name), encoding="utf-8") as file:
                    text = file.read()
                yield name, text, ast.parse(text)

    def test_sizes_and_signs(self):
        for _, text, tree in self.files():
            rows = text.split("\n")
            self.assertLessEqual(len(rows), 400)
            self.assertLessEqual(max(len(row) for row in rows), 120)
            self.assertTrue(all(sign == "\n" or " " <= sign <= "~" for sign in text))
            for node in ast.walk(tree):
                if isinstance(node, ast.FunctionDef):
                    self.assertLessEqual(node.end_lineno - node.lineno + 1, 40)

    def test_only_the_plain_part_is_used(self):
        for _, _, tree in self.files():
            for node in ast.walk(tree):
                self.assertNotIsInstance(node, LEFT_OUT)
                if isinstance(node, ast.ImportFrom):
                    self.assertTrue(node.module.startswith("songkin.") and node.level == 0)
                if isinstance(node, (ast.FunctionDef, ast.ClassDef)):
                    self.assertEqual(node.decorator_list, [])
                if isinstance(node, ast.Constant):
                    self.assertNotIsInstance(node.value, (float, bytes, complex))

    def test_names_and_methods_of_pythons_own(self):
        methods = list(OWN_METHODS)
        for _, _, tree in self.files():
            for node in ast.walk(tree):
                if isinstance(node, ast.ClassDef):
                    methods += [part.name for part in node.body if isinstance(part, ast.FunctionDef)]
        for _, _, tree in self.files():
            for node in ast.walk(tree):
                if isinstance(node, ast.Name):
                    self.assertFalse(node.id.startswith("_"))
                    if isinstance(node.ctx, ast.Store):
                        self.assertFalse(hasattr(builtins, node.id), node.id)
                    elif hasattr(builtins, node.id):
                        self.assertIn(node.id, OWN_NAMES)
                if isinstance(node, ast.arg):
                    self.assertFalse(hasattr(builtins, node.arg), node.arg)
                if isinstance(node, ast.Call) and isinstance(node.func, ast.Attribute):
                    self.assertIn(node.func.attr, methods)

    def test_the_interface_stands_in_its_file(self):
        for name, _, tree in self.files():
            found = [node for node in tree.body if isinstance(node, ast.FunctionDef) and node.name == "answers"]
            if name == "family.py":
                self.assertEqual([arg.arg for arg in found[0].args.args], ["calls"])
            else:
                self.assertEqual(found, [])


if __name__ == "__main__":
    unittest.main()
