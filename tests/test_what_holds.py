"""What holds of windows and points: moved windows, wider windows."""

import unittest

from tests.reference import EVERY_M, is_length, lengths, minus, moved_window, partner, place, plus, window
from windowpoints.cut import back, first, next_of, point

MOVES = ([1, 0], [0, 1], [-3, 2], [37, -58], [-1000, 999], [-100000, 60000])


def small_numbers():
    return [[a, b] for a in range(-8, 9, 2) for b in range(-5, 6)]


def moved_answer(answer, move):
    """The point that is answered, moved; a refusal stays."""
    return [0] + plus(answer[1:], move) if answer[0] == 0 else answer


class MovedWindows(unittest.TestCase):
    def test_points_are_moved_by_the_number(self):
        for m in EVERY_M:
            for length in lengths(m)[::6]:
                x = window([-1, 0], length)
                for move in MOVES:
                    other = moved_window(x, partner(m, move))
                    for z in small_numbers():
                        self.assertEqual(point(m, other, plus(z, move)), point(m, x, z), (m, x, move, z))

    def test_next_points_are_moved_by_the_number(self):
        for m in EVERY_M:
            for length in lengths(m)[::6]:
                x = window([-1, 0], length)
                for move in MOVES:
                    other = moved_window(x, partner(m, move))
                    for z in small_numbers():
                        expected = moved_answer(next_of(m, x, z), move)
                        self.assertEqual(next_of(m, other, plus(z, move)), expected, (m, x, move, z))

    def test_points_before_are_moved_by_the_number(self):
        for m in EVERY_M:
            for length in lengths(m)[::6]:
                x = window([-1, 0], length)
                for move in MOVES:
                    other = moved_window(x, partner(m, move))
                    for z in small_numbers():
                        expected = moved_answer(back(m, x, z), move)
                        self.assertEqual(back(m, other, plus(z, move)), expected, (m, x, move, z))

    def test_first_points_are_moved_by_the_number(self):
        # Not as far as the own point is farther than 400 points away: it isn't moved along with w.
        for m in EVERY_M:
            for length in lengths(m)[::12]:
                x = window([-1, 0], length)
                for move in ([1, 0], [0, 1], [-3, 2], [8, -9]):
                    other = moved_window(x, partner(m, move))
                    for y in small_numbers()[::4]:
                        expected = moved_answer(first(m, x, y), move)
                        self.assertEqual(expected[0], 0)
                        self.assertEqual(first(m, other, plus(y, move)), expected, (m, x, move, y))

    def test_first_points_are_moved_with_the_own_point_by_a_whole_number(self):
        for m in EVERY_M:
            for length in ([1, 0], [0, 1]):
                x = window([2, -1], length)
                for move in ([-7, 0], [999000, 0], [-999000, 0]):
                    other = moved_window(x, move)
                    for y in ([0, 0], [9, -40], [-60, 3], [0, 500], [0, -500]):
                        expected = moved_answer(first(m, x, y), move)
                        self.assertEqual(first(m, other, plus(y, move)), expected, (m, x, move, y))


class WiderWindows(unittest.TestCase):
    def test_a_point_stays_one_by_any_window_around(self):
        for m in EVERY_M:
            some = 0
            for length in lengths(m)[::4]:
                x = window([0, 0], length)
                for lower, upper in (([0, 0], [-m, 1]), ([-m, 1], [0, 0]), ([-m, 1], [m + 1, -1])):
                    start = minus(x[:2], lower)
                    around = start + plus(x[2:], upper)
                    if is_length(m, minus(around[2:], start)):
                        for z in small_numbers():
                            if point(m, x, z) == [1]:
                                some += 1
                                self.assertEqual(point(m, around, z), [1], (m, x, around, z))
            self.assertGreater(some, 20)

    def test_the_next_point_is_no_farther_by_a_window_around(self):
        for m in EVERY_M:
            self.assertEqual(next_of(m, [0, 0, 1, 0], [0, 0]), [0, 1, 1])
            self.assertEqual(next_of(m, [-1, 0, 1, 0], [0, 0]), [0, 0, 1])
            self.assertEqual(next_of(m, [0, 0, 2, 0], [0, 0]), [0, 1, 0])
            self.assertEqual(back(m, [0, 0, 1, 0], [0, 0]), [0, 0, -1])
            self.assertEqual(back(m, [0, 0, 2, 0], [1, 1]), [0, 1, 0])
            self.assertEqual(back(m, [-1, 0, 1, 0], [0, 0]), [0, -1, 0])

    def test_the_first_point_is_no_farther_by_a_window_around(self):
        for m in EVERY_M:
            for length in ([1, 0], [0, 1]):
                x = window([-1, 1], length)
                around = minus(x[:2], [-m, 1]) + x[2:]
                for y in small_numbers()[::3]:
                    narrow = first(m, x, y)
                    wide = first(m, around, y)
                    self.assertEqual((narrow[0], wide[0]), (0, 0))
                    self.assertLessEqual(place(m, wide[1:]), place(m, narrow[1:]), (m, x, y))


if __name__ == "__main__":
    unittest.main()
