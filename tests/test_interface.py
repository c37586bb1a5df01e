"""What the interface says of `answers` itself, whatever is asked."""

import ast
import contextlib
import inspect
import io
import pathlib
import unittest

import netmends.nets
from netmends.nets import answers

PACKAGE = pathlib.Path(netmends.nets.__file__).parent

LINES = (
    [0, 3, 4, 1, 5, 1, 5, 2, 5, 2, 5, 3, 16, 3, 17],
    [1, 0, 1, 1, 1, 2, 1, 3, 1, 4],
    [0, 5, 2, 1, 3, 3, 3],
    [0, 4, 4, 1, 0, 1, 1, 1, 2, 1, 3, 1, 4, 1, 5, 1, 6, 1, 7, 1, 8, 1, 7],
    [2, 0],
    [3, 3],
    [4],
    [5, 0],
    [6],
    [1, 0, 1, 1, 4, 5, 4, 1, 0, 2, 3, 5, 2, 0, 4, 6, 1, 2, 5, 4, 1, 0, 2, 3, 6],
    [0, 4, 4, 1, 12, 1, 23, 4, 6, 5, 5, 0, 4, 5, 6, 7, 5, 1, 16, 6, 2, 12, 6],
    [0, 4, 4, 1, 0, 1, 2, 1, 9, 1, 11, 6, 4, 6, 1, 5, 1, 7, 1, 16, 1, 20, 6, 5, 1, 4294967295, 6],
)


def refuse_change(name):
    def refuse(self, *numbers, **more):
        raise AssertionError(f"{name} on what was handed in")
    return refuse


CHANGES = (
    "append", "clear", "extend", "insert", "pop", "remove", "reverse", "sort",
    "__setitem__", "__delitem__", "__iadd__", "__imul__",
)
# A list that fails at a change, so that one which is undone again is seen too.
Unchanging = type("Unchanging", (list,), {name: refuse_change(name) for name in CHANGES})


class Interface(unittest.TestCase):
    def test_name_and_argument(self):
        self.assertEqual(str(inspect.signature(answers)), "(calls)")
        self.assertEqual(answers.__module__, "netmends.nets")

    def test_by_the_argument_s_name(self):
        self.assertEqual(answers(calls=[3, 0]), [3, 0, 0, 1])

    def test_a_list_of_whole_numbers(self):
        for line in LINES:
            told = answers(list(line))
            self.assertIs(type(told), list)
            self.assertEqual({type(number) for number in told}, {int})

    def test_what_is_handed_in_is_the_same_behind_the_call(self):
        for line in LINES:
            calls = list(line)
            told = answers(calls)
            self.assertEqual(calls, line)
            self.assertIsNot(told, calls)

    def test_what_is_handed_in_is_not_changed_for_a_while_either(self):
        for line in LINES:
            self.assertEqual(answers(Unchanging(line)), answers(list(line)))

    def test_nothing_is_kept(self):
        first = [answers(list(line)) for line in LINES]
        for line, told in zip(reversed(LINES), reversed(first)):
            calls = list(line)
            self.assertEqual(answers(calls), told)
            self.assertEqual(answers(calls), told)

    def test_an_answer_is_the_caller_s_own(self):
        for line in LINES:
            told = answers(list(line))
            copy = list(told)
            told.clear()
            self.assertEqual(answers(list(line)), copy)

    def test_nothing_is_printed(self):
        out = io.StringIO()
        with contextlib.redirect_stdout(out), contextlib.redirect_stderr(out):
            for line in LINES:
                answers(list(line))
        self.assertEqual(out.getvalue(), "")


class Files(unittest.TestCase):
    def sources(self):
        files = sorted(PACKAGE.rglob("*.py"))
        self.assertIn(PACKAGE / "nets.py", files)
        return [(file, file.read_text(encoding="utf-8")) for file in files]

    def test_nothing_is_imported_or_read(self):
        for file, text in self.sources():
            for node in ast.walk(ast.parse(text)):
                self.assertNotIsInstance(node, (ast.Import, ast.ImportFrom), file)
                if isinstance(node, ast.Name):
                    self.assertNotIn(node.id, ("open", "input", "print", "eval", "exec"), file)
                    self.assertFalse(node.id.startswith("_"), file)

    def test_sizes_and_signs(self):
        for file, text in self.sources():
            rows = text.split("\n")
            self.assertLess(len(rows), 400, file)
            self.assertLessEqual(max(len(row) for row in rows), 120, file)
            self.assertTrue(all(sign == "\n" or " " <= sign <= "~" for sign in text), file)
            for node in ast.walk(ast.parse(text)):
                if isinstance(node, ast.FunctionDef):
                    self.assertLessEqual(node.end_lineno - node.lineno + 1, 40, node.name)

    def test_only_python_files_lie_in_the_package(self):
        for path in PACKAGE.rglob("*"):
            if "__pycache__" not in path.parts:
                self.assertEqual(path.suffix, ".py")


if __name__ == "__main__":
    unittest.main()
