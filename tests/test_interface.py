"""The interface: names, arguments and kinds; nothing changed, kept, printed or imported."""

import ast
import contextlib
import inspect
import io
import pathlib
import unittest

import windowpoints
from windowpoints.cut import back, first, next_of, point

ALL = (point, next_of, back, first)
PACKAGE = pathlib.Path(windowpoints.__file__).parent
CALLS = (
    (1, [0, 0, 1, 0], [0, 0]),
    (2, [0, 0, 2, 0], [1, 0]),
    (3, [-4, 0, 1, 0], [0, 0]),
    (4, [0, 0, 15, 0], [0, 0]),
    (4, [0, 0, 1, 0], [40, 7]),
    (0, [0, 0, 1, 0], [0, 0]),
    (1, [0, 0, 3, 0], [0, 0]),
    (1, [], []),
    (1, [0, 0, 1, 0, 5, 6, 7, 8], [1, 2, 3, 4, 5, 6, 7, 8]),
    (1, [0, 0, 1, 0], [1000001, 0]),
    (3, [0, 0, 1, 1], [-20, -15]),
    (2, [7, -4, 8, -4], [1000000, 1000000]),
    (4, [0, 1000000, 1, 1000000], [0, 1000000]),
)


class Interface(unittest.TestCase):
    def test_names_and_arguments(self):
        for call in (point, next_of, back):
            self.assertEqual(list(inspect.signature(call).parameters), ["m", "x", "z"])
        self.assertEqual(list(inspect.signature(first).parameters), ["m", "x", "y"])
        for call in ALL:
            self.assertEqual(call.__module__, "windowpoints.cut")
        self.assertEqual(point(m=1, x=[0, 0, 1, 0], z=[1, 1]), [1])
        self.assertEqual(next_of(m=1, x=[0, 0, 1, 0], z=[1, 1]), [0, 2, 2])
        self.assertEqual(back(m=1, x=[0, 0, 1, 0], z=[1, 1]), [0, 0, 0])
        self.assertEqual(first(m=1, x=[0, 0, 1, 0], y=[1, 0]), [0, 1, 1])

    def test_one_list_of_whole_numbers_is_given_back(self):
        for m, x, z in CALLS:
            for call in ALL:
                answer = call(m, x, z)
                self.assertIs(type(answer), list)
                self.assertTrue(all(type(number) is int for number in answer), answer)
            self.assertEqual(len(point(m, x, z)), 1)
            for call in (next_of, back, first):
                self.assertEqual(len(call(m, x, z)), 3 if call(m, x, z)[0] == 0 else 1)

    def test_what_is_handed_in_is_not_changed(self):
        for m, x, z in CALLS:
            for call in ALL:
                own_x = list(x)
                own_z = list(z)
                call(m, own_x, own_z)
                self.assertEqual((own_x, own_z), (x, z))

    def test_what_is_handed_in_is_not_changed_for_a_while_either(self):
        class Watched(list):
            def refuse(self, *given):
                raise AssertionError("changed")

            __setitem__ = __delitem__ = __iadd__ = __imul__ = refuse
            append = extend = insert = pop = remove = clear = sort = reverse = refuse

        for m, x, z in CALLS:
            for call in ALL:
                self.assertEqual(call(m, Watched(x), Watched(z)), call(m, x, z))

    def test_nothing_is_kept(self):
        for call in ALL:
            fresh = [call(m, list(x), list(z)) for m, x, z in CALLS]
            for answer, (m, x, z) in zip(reversed(fresh), reversed(CALLS)):
                again = call(m, x, z)
                self.assertEqual(again, answer)
                again.append(99)
                self.assertEqual(call(m, x, z), answer)

    def test_one_list_for_both(self):
        # The same list as x and as z is no window or no number, and stays as it is.
        both = [0, 0, 1, 0]
        for call in ALL:
            self.assertEqual(call(1, both, both), [-22])
        self.assertEqual(both, [0, 0, 1, 0])

    def test_nothing_is_printed(self):
        out = io.StringIO()
        with contextlib.redirect_stdout(out), contextlib.redirect_stderr(out):
            for m, x, z in CALLS:
                for call in ALL:
                    call(m, x, z)
        self.assertEqual(out.getvalue(), "")


class Form(unittest.TestCase):
    def sources(self):
        return [(path, path.read_text(encoding="utf-8")) for path in sorted(PACKAGE.rglob("*.py"))]

    def test_nothing_is_imported(self):
        for path, text in self.sources():
            for node in ast.walk(ast.parse(text)):
                self.assertNotIsInstance(node, (ast.Import, ast.ImportFrom), path)

    def test_nothing_but_source_files(self):
        names = [path.name for path in PACKAGE.iterdir() if path.name != "__pycache__"]
        self.assertEqual(sorted(names), ["__init__.py", "cut.py"])

    def test_sizes_and_signs(self):
        for path, text in self.sources():
            self.assertTrue(all(sign == "\n" or " " <= sign <= "~" for sign in text), path)
            self.assertLessEqual(len(text.splitlines()), 400, path)
            self.assertTrue(all(len(line) <= 120 for line in text.splitlines()), path)
            for node in ast.walk(ast.parse(text)):
                if isinstance(node, ast.FunctionDef):
                    self.assertLessEqual(node.end_lineno - node.lineno + 1, 40, node.name)

    def test_no_floats_and_no_division(self):
        for path, text in self.sources():
            for node in ast.walk(ast.parse(text)):
                self.assertNotIsInstance(node, ast.Div, path)
                if isinstance(node, ast.Constant):
                    self.assertNotIsInstance(node.value, (float, complex, bytes), path)


if __name__ == "__main__":
    unittest.main()
