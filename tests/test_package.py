"""What holds over the whole program: its interface, and that it draws on nothing from outside."""

import ast
import inspect
import pathlib
import unittest

import branchway.day
import branchway.errors
import branchway.tree

FOLDER = pathlib.Path(branchway.errors.__file__).parent

INTERFACE = {
    branchway.tree.elders: ["parents", "state"],
    branchway.tree.nearest: ["parents", "one", "two"],
    branchway.tree.is_elder: ["parents", "one", "two"],
    branchway.tree.way: ["parents", "one", "two"],
    branchway.day.answers: ["deeds"],
    branchway.day.behind: ["deeds"],
}

RULED_OUT = ["open", "input", "print", "eval", "exec", "compile", "globals", "__import__", "type", "hash", "id"]


def sources():
    return sorted(FOLDER.rglob("*.py"))


def nodes_of(path):
    return list(ast.walk(ast.parse(path.read_text(encoding="utf-8"))))


class InterfaceTest(unittest.TestCase):
    def test_arguments(self):
        for function, names in INTERFACE.items():
            parameters = inspect.signature(function).parameters
            self.assertEqual(list(parameters), names)
            self.assertTrue(all(one.default is one.empty for one in parameters.values()))

    def test_arguments_by_name(self):
        self.assertEqual(branchway.tree.elders(parents=[None, 0], state=1), [1, 0])
        self.assertEqual(branchway.tree.nearest(parents=[None, 0], one=1, two=0), 0)
        self.assertIs(branchway.tree.is_elder(parents=[None, 0], one=0, two=1), True)
        self.assertEqual(branchway.tree.way(parents=[None, 0], one=1, two=0), ([1], []))
        self.assertEqual(branchway.day.answers(deeds=[("step", "a", 1)]), [1])
        self.assertEqual(branchway.day.behind(deeds=[("step", "a", 1)]), ([None, 0], 1, [("a", 1)]))


class OwnMeansTest(unittest.TestCase):
    def test_only_own_modules_are_imported(self):
        for path in sources():
            for node in nodes_of(path):
                self.assertNotIsInstance(node, ast.Import, path.name)
                if isinstance(node, ast.ImportFrom):
                    self.assertEqual(node.level, 0, path.name)
                    self.assertTrue(node.module.startswith("branchway."), path.name)

    def test_nothing_reaches_outside(self):
        for path in sources():
            for node in nodes_of(path):
                if isinstance(node, ast.Name):
                    self.assertNotIn(node.id, RULED_OUT, path.name)


class SizeAndSignsTest(unittest.TestCase):
    def test_files(self):
        for path in sources():
            text = path.read_text(encoding="utf-8")
            self.assertTrue(all(sign == "\n" or " " <= sign <= "~" for sign in text), path.name)
            self.assertLessEqual(len(text.splitlines()), 400, path.name)
            self.assertLessEqual(max(len(line) for line in text.splitlines()), 120, path.name)

    def test_functions(self):
        for path in sources():
            for node in nodes_of(path):
                if isinstance(node, ast.FunctionDef):
                    self.assertLessEqual(node.end_lineno - node.lineno + 1, 40, node.name)


if __name__ == "__main__":
    unittest.main()
