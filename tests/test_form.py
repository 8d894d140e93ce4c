"""The form of the package's files: sizes, signs, imports, and a few more rules of LANGUAGE.md."""

import ast
import builtins
import unittest
from pathlib import Path

PACKAGE = Path(__file__).resolve().parent.parent / "duetickers"
FILES = sorted(PACKAGE.rglob("*.py"))
LIBRARY = {"math": ("gcd", "lcm", "isqrt"), "heapq": ("heappush", "heappop", "heapify")}
TAKES_A_LIST = ("any", "all", "min", "max", "sum", "sorted")


def nodes_of(kind):
    """The pairs (file, node) of all nodes of this kind."""
    return [(path.name, node) for path in FILES for node in ast.walk(ast.parse(path.read_text()))
            if isinstance(node, kind)]


def expression_of(text):
    """The node of an expression."""
    return ast.parse(text, mode="eval").body


def is_literal_string(node):
    """Whether the node is a string that is written out."""
    return isinstance(node, ast.Constant) and isinstance(node.value, str)


def is_surely_a_string(node):
    """Whether rule L28 lets a text return this: a string, an f-string, str(..), repr(..), or a literal's join."""
    if isinstance(node, ast.Call) and isinstance(node.func, ast.Name):
        return node.func.id in ("str", "repr")
    if isinstance(node, ast.Call) and isinstance(node.func, ast.Attribute):
        return node.func.attr == "join" and is_literal_string(node.func.value)
    return is_literal_string(node) or isinstance(node, ast.JoinedStr)


class TestForm(unittest.TestCase):
    def test_folder_holds_python_files_alone(self):
        found = [path for path in PACKAGE.rglob("*") if "__pycache__" not in path.parts and not path.is_dir()]
        self.assertEqual(sorted(found), FILES)
        self.assertIn(PACKAGE / "__init__.py", FILES)

    def test_signs_and_sizes(self):
        for path in FILES:
            text = path.read_text()
            self.assertTrue(all(sign == "\n" or " " <= sign <= "~" for sign in text), path)
            self.assertLessEqual(len(text.splitlines()), 399, path)
            self.assertTrue(all(len(line) <= 120 for line in text.splitlines()), path)

    def test_functions_are_small(self):
        for name, node in nodes_of(ast.FunctionDef):
            self.assertLessEqual(node.end_lineno - node.lineno + 1, 40, (name, node.name))

    def test_docstrings_stand_everywhere(self):
        for path in FILES:
            self.assertTrue(ast.get_docstring(ast.parse(path.read_text())), path)

    def test_imports(self):
        self.assertEqual(nodes_of(ast.Import), [])
        for name, node in nodes_of(ast.ImportFrom):
            self.assertEqual(node.level, 0, name)
            for word in node.names:
                self.assertIsNone(word.asname)
                if not node.module.startswith("duetickers."):
                    self.assertIn(word.name, LIBRARY[node.module])

    def test_no_division_and_no_floats(self):
        self.assertEqual(nodes_of(ast.Div), [])
        self.assertEqual([name for name, node in nodes_of(ast.Constant) if isinstance(node.value, float)], [])

    def test_exponents_are_literals(self):
        for name, node in nodes_of(ast.BinOp):
            if isinstance(node.op, ast.Pow):
                self.assertTrue(isinstance(node.right, ast.Constant) and 0 <= node.right.value <= 64, name)

    def test_no_generator_expressions_where_lists_are_due(self):
        for name, node in nodes_of(ast.Call):
            if isinstance(node.func, ast.Name) and node.func.id in TAKES_A_LIST:
                self.assertFalse([part for part in node.args if isinstance(part, ast.GeneratorExp)], name)

    def test_words_that_are_not_used(self):
        banned = ("type", "open", "input", "eval", "exec", "print", "float", "map", "filter", "object", "getattr")
        for name, node in nodes_of(ast.Name):
            self.assertNotIn(node.id, banned, name)

    def test_names_of_imports_and_builtins_are_not_given_again(self):
        for path in FILES:
            tree = ast.parse(path.read_text())
            taken = set(dir(builtins)) | {name.name for node in ast.walk(tree) if isinstance(node, ast.ImportFrom)
                                          for name in node.names}
            taken |= {node.name for node in tree.body if isinstance(node, ast.ClassDef)}
            given = {node.arg for node in ast.walk(tree) if isinstance(node, ast.arg)}
            given |= {node.id for node in ast.walk(tree) if isinstance(node, ast.Name) and isinstance(node.ctx, ast.Store)}
            given |= {node.name for node in tree.body if isinstance(node, ast.FunctionDef)}
            self.assertEqual(given & taken, set(), path.name)

    def test_imports_are_used_and_come_from_where_they_are_defined(self):
        for path in FILES:
            tree = ast.parse(path.read_text())
            used = {node.id for node in ast.walk(tree) if isinstance(node, ast.Name)}
            for node in ast.walk(tree):
                if isinstance(node, ast.ImportFrom):
                    self.assertEqual([name.name for name in node.names if name.name not in used], [], path.name)
                    if node.module.startswith("duetickers."):
                        source = (PACKAGE / (node.module.split(".")[1] + ".py")).read_text()
                        for name in node.names:
                            self.assertRegex(source, f"(?m)^((def|class) {name.name}[(:]|{name.name} = )")

    def test_generators_are_iterated_at_once(self):
        made = {node.name for name, node in nodes_of(ast.FunctionDef)
                if any(isinstance(part, (ast.Yield, ast.YieldFrom)) for part in ast.walk(node))}
        names = [node.name for name, node in nodes_of(ast.FunctionDef)]
        self.assertEqual([name for name in made if names.count(name) > 1], [])
        iterated = [node.iter for name, node in nodes_of((ast.For, ast.comprehension))]
        iterated += [node.value for name, node in nodes_of(ast.YieldFrom)]
        iterated += [node.args[0] for name, node in nodes_of(ast.Call)
                     if isinstance(node.func, ast.Name) and node.func.id in ("list", "tuple")]
        called = [node for name, node in nodes_of(ast.Call) if isinstance(node.func, ast.Name) and node.func.id in made]
        self.assertEqual(len(called), len([node for node in iterated if isinstance(node, ast.Call)
                                           and isinstance(node.func, ast.Name) and node.func.id in made]))

    def test_strings(self):
        for name, node in nodes_of(ast.Constant):
            if is_literal_string(node):
                self.assertNotIn("%", node.value, name)

    def test_returns_of_texts_are_surely_strings(self):
        found = [(name, node) for name, node in nodes_of(ast.FunctionDef) if node.name in ("__str__", "__repr__")]
        self.assertGreaterEqual(len(found), 5)
        for name, node in found:
            self.assertIsInstance(node.body[-1], ast.Return, name)
            for part in ast.walk(node):
                if isinstance(part, ast.Return):
                    self.assertTrue(is_surely_a_string(part.value), (name, part.lineno))

    def test_what_is_surely_a_string(self):
        for text in ('"a"', 'f"{a}"', 'str(a.text)', 'repr(a)', '" ".join(a)', 'f"{a} " "b"'):
            self.assertIs(is_surely_a_string(expression_of(text)), True, text)
        for text in ("self.text", "text", "5", "None", 'b"a"', "told(a)", "self.join(a)", "a.join(b)", '"a" + "b"',
                     '"a".strip()', '("a", "b")', '"a" if a else "b"', "a.str(b)", 'b"".join(a)'):
            self.assertIs(is_surely_a_string(expression_of(text)), False, text)
        self.assertIs(is_surely_a_string(None), False)

    def test_is_stands_beside_constants_alone(self):
        for name, node in nodes_of(ast.Compare):
            if any(isinstance(sign, (ast.Is, ast.IsNot)) for sign in node.ops):
                self.assertIsInstance(node.comparators[-1], ast.Constant, name)


if __name__ == "__main__":
    unittest.main()
