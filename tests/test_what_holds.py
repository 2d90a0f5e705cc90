"""What holds of windows and points: moved windows, wider windows."""

import unittest

from tests.reference import EVERY_M, is_length, lengths, minus, moved_window, partner, plus, window
from windowpoints.cut import next_of, point

MOVES = ([1, 0], [0, 1], [-3, 2], [37, -58], [-1000, 999], [-100000, 60000])


def small_numbers():
    return [[a, b] for a in range(-8, 9, 2) for b in range(-5, 6)]


class MovedWindows(unittest.TestCase):
    def test_points_are_moved_by_the_number(self):
        for m in EVERY_M:
            for length in lengths(m)[::6]:
                x = window([-1, 0], length)
                for move in MOVES:
                    other = moved_window(x, partner(m, move))
                    for z in small_numbers():
                        self.assertEqual(point(m, other, plus(z, move)), point(m, x, z), (m, x, move, z))

    def test_next_points_are_moved_by_the_number(self):
        for m in EVERY_M:
            for length in lengths(m)[::6]:
                x = window([-1, 0], length)
                for move in MOVES:
                    other = moved_window(x, partner(m, move))
                    for z in small_numbers():
                        expected = next_of(m, x, z)
                        if expected[0] == 0:
                            expected = [0] + plus(expected[1:], move)
                        self.assertEqual(next_of(m, other, plus(z, move)), expected, (m, x, move, z))


class WiderWindows(unittest.TestCase):
    def test_a_point_stays_one_by_any_window_around(self):
        for m in EVERY_M:
            some = 0
            for length in lengths(m)[::4]:
                x = window([0, 0], length)
                for lower, upper in (([0, 0], [-m, 1]), ([-m, 1], [0, 0]), ([-m, 1], [m + 1, -1])):
                    start = minus(x[:2], lower)
                    around = start + plus(x[2:], upper)
                    if is_length(m, minus(around[2:], start)):
                        for z in small_numbers():
                            if point(m, x, z) == [1]:
                                some += 1
                                self.assertEqual(point(m, around, z), [1], (m, x, around, z))
            self.assertGreater(some, 20)

    def test_the_next_point_is_no_farther_by_a_window_around(self):
        for m in EVERY_M:
            self.assertEqual(next_of(m, [0, 0, 1, 0], [0, 0]), [0, 1, 1])
            self.assertEqual(next_of(m, [-1, 0, 1, 0], [0, 0]), [0, 0, 1])
            self.assertEqual(next_of(m, [0, 0, 2, 0], [0, 0]), [0, 1, 0])


if __name__ == "__main__":
    unittest.main()
