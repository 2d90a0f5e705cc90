"""The interface: names, arguments and kinds; nothing changed, kept, printed or imported."""

import ast
import contextlib
import inspect
import io
import pathlib
import unittest

import windowpoints
from windowpoints.cut import back, count, first, next_of, parts, point, row, steps

PACKAGE = pathlib.Path(windowpoints.__file__).parent
CALLS = (
    (1, [0, 0, 1, 0], [0, 0]),
    (2, [0, 0, 2, 0], [1, 0]),
    (3, [-4, 0, 1, 0], [0, 0]),
    (4, [0, 0, 15, 0], [0, 0]),
    (4, [0, 0, 1, 0], [40, 7]),
    (0, [0, 0, 1, 0], [0, 0]),
    (1, [0, 0, 3, 0], [0, 0]),
    (1, [], []),
    (1, [0, 0, 1, 0, 5, 6, 7, 8], [1, 2, 3, 4, 5, 6, 7, 8]),
    (1, [0, 0, 1, 0], [1000001, 0]),
    (3, [0, 0, 1, 1], [-20, -15]),
    (2, [7, -4, 8, -4], [1000000, 1000000]),
    (4, [0, 1000000, 1, 1000000], [0, 1000000]),
)
ARGUMENTS = {
    point: ["m", "x", "z"],
    next_of: ["m", "x", "z"],
    back: ["m", "x", "z"],
    first: ["m", "x", "y"],
    row: ["m", "k", "x", "z"],
    count: ["m", "x", "y", "z"],
    steps: ["m", "x"],
    parts: ["m", "x"],
}


def every_call():
    """Each call with all that may be handed in: its name, then its arguments."""
    found = []
    for m, x, z in CALLS:
        for call in (point, next_of, back, first):
            found.append((call, (m, x, z)))
        for k in (1, 7, 60, 61):
            found.append((row, (m, k, x, z)))
        for other in ([0, 0], [9, -2], [1000000, 0], [1]):
            found.append((count, (m, x, z, other)))
            found.append((count, (m, x, other, z)))
        for call in (steps, parts):
            found.append((call, (m, x)))
    return found


def copied(given):
    return [list(part) if isinstance(part, list) else part for part in given]


class Interface(unittest.TestCase):
    def test_names_and_arguments(self):
        for call, arguments in ARGUMENTS.items():
            self.assertEqual(list(inspect.signature(call).parameters), arguments)
            self.assertEqual(call.__module__, "windowpoints.cut")
        self.assertEqual(point(m=1, x=[0, 0, 1, 0], z=[1, 1]), [1])
        self.assertEqual(next_of(m=1, x=[0, 0, 1, 0], z=[1, 1]), [0, 2, 2])
        self.assertEqual(back(m=1, x=[0, 0, 1, 0], z=[1, 1]), [0, 0, 0])
        self.assertEqual(first(m=1, x=[0, 0, 1, 0], y=[1, 0]), [0, 1, 1])
        self.assertEqual(row(m=1, k=2, x=[0, 0, 1, 0], z=[1, 1]), [2, 1, 1, 2, 2])
        self.assertEqual(count(m=1, x=[0, 0, 1, 0], y=[0, 0], z=[3, 0]), [2])
        self.assertEqual(steps(m=1, x=[0, 0, 1, 0]), [2, 0, 1, 1, 1])
        self.assertEqual(parts(m=1, x=[0, 0, 1, 0]), [2, 0, 1, -1, 1, 1, 0, 1, 1, 0, 0, -1, 1])

    def test_one_list_of_whole_numbers_is_given_back(self):
        for call, given in every_call():
            answer = call(*given)
            self.assertIs(type(answer), list)
            self.assertTrue(all(type(number) is int for number in answer), answer)
            self.assertEqual(len(answer), self.length_of(call, answer), (call, given))

    def length_of(self, call, answer):
        if answer[0] < 0 or call in (point, count):
            return 1
        if call is parts:
            return 1 + 6 * answer[0]
        return 1 + 2 * answer[0] if call in (row, steps) else 3

    def test_a_refusal_is_its_number_alone(self):
        refusals = {call: set() for call in ARGUMENTS}
        for call, given in every_call():
            answer = call(*given)
            if answer[0] < 0:
                self.assertEqual(len(answer), 1)
                refusals[call].add(answer[0])
        for call in (point, steps, parts):
            self.assertEqual(refusals[call], {-22})
        for call in (next_of, back, row):
            self.assertEqual(refusals[call], {-22, -2})
        for call in (first, count):
            self.assertEqual(refusals[call], {-22, -75})

    def test_what_is_handed_in_is_not_changed(self):
        for call, given in every_call():
            own = copied(given)
            call(*own)
            self.assertEqual(own, list(given))

    def test_what_is_handed_in_is_not_changed_for_a_while_either(self):
        class Watched(list):
            def refuse(self, *given):
                raise AssertionError("changed")

            __setitem__ = __delitem__ = __iadd__ = __imul__ = refuse
            append = extend = insert = pop = remove = clear = sort = reverse = refuse

        for call, given in every_call():
            watched = [Watched(part) if isinstance(part, list) else part for part in given]
            self.assertEqual(call(*watched), call(*given))

    def test_nothing_is_kept(self):
        # Asked twice, with all others between; what was given back may be changed.
        calls = every_call()
        fresh = [call(*copied(given)) for call, given in calls]
        for answer, (call, given) in zip(reversed(fresh), reversed(calls)):
            again = call(*given)
            self.assertEqual(again, answer)
            again.append(99)
            again[0] = 99
            self.assertEqual(call(*given), answer)

    def test_one_list_for_all(self):
        # The same list as x and as z is no window or no number, and stays as it is.
        both = [0, 0, 1, 0]
        for call in (point, next_of, back, first):
            self.assertEqual(call(1, both, both), [-22])
        self.assertEqual(row(1, 1, both, both), [-22])
        self.assertEqual(count(1, both, both, both), [-22])
        self.assertEqual(both, [0, 0, 1, 0])

    def test_one_list_for_both_numbers(self):
        number = [0, 0]
        self.assertEqual(count(1, [0, 0, 1, 0], number, number), [0])
        self.assertEqual(number, [0, 0])

    def test_what_is_given_back_is_not_what_is_handed_in(self):
        z = [0, 0]
        answer = row(1, 1, [0, 0, 1, 0], z)
        answer[1] = 7
        self.assertEqual(z, [0, 0])

    def test_nothing_is_printed(self):
        out = io.StringIO()
        with contextlib.redirect_stdout(out), contextlib.redirect_stderr(out):
            for call, given in every_call():
                call(*given)
        self.assertEqual(out.getvalue(), "")


class Form(unittest.TestCase):
    def sources(self):
        return [(path, path.read_text(encoding="utf-8")) for path in sorted(PACKAGE.rglob("*.py"))]

    def test_nothing_is_imported(self):
        for path, text in self.sources():
            for node in ast.walk(ast.parse(text)):
                self.assertNotIsInstance(node, (ast.Import, ast.ImportFrom), path)

    def test_nothing_but_source_files(self):
        names = [path.name for path in PACKAGE.iterdir() if path.name != "__pycache__"]
        self.assertEqual(sorted(names), ["__init__.py", "cut.py"])

    def test_sizes_and_signs(self):
        for path, text in self.sources():
            self.assertTrue(all(sign == "\n" or " " <= sign <= "~" for sign in text), path)
            self.assertLessEqual(len(text.splitlines()), 400, path)
            self.assertTrue(all(len(line) <= 120 for line in text.splitlines()), path)
            for node in ast.walk(ast.parse(text)):
                if isinstance(node, ast.FunctionDef):
                    self.assertLessEqual(node.end_lineno - node.lineno + 1, 40, node.name)

    def test_no_floats_and_no_division(self):
        for path, text in self.sources():
            for node in ast.walk(ast.parse(text)):
                self.assertNotIsInstance(node, ast.Div, path)
                if isinstance(node, ast.Constant):
                    self.assertNotIsInstance(node.value, (float, complex, bytes), path)


if __name__ == "__main__":
    unittest.main()
