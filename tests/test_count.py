"""count: how many points aren't below y, but below z; -75 if they are too far away or too many."""

import unittest

from tests.reference import (EVERY_M, few_lengths, lengths, minus, moved_window, own_point, partner, place, plus,
                             points_around_own, points_between, smallest, some_lengths, window)
from windowpoints.cut import count, first, row

FAR = 1000000
REFUSED = [-75]
MOST_AWAY = 400
MOST_COUNTED = 399


def how_many(m, points, y, z):
    return len([number for number in points if place(m, y) <= place(m, number) < place(m, z)])


def negative(number):
    return [-number[0], -number[1]]


class OrdinaryCounts(unittest.TestCase):
    def test_golden_section_by_hand(self):
        # Points: -1.618.., 0, 2.618.., 5.236.., 6.854..
        x = [0, 0, 1, 0]
        self.assertEqual(count(1, x, [0, 0], [1, 0]), [1])
        self.assertEqual(count(1, x, [1, 0], [2, 0]), [0])
        self.assertEqual(count(1, x, [0, 0], [3, 0]), [2])
        self.assertEqual(count(1, x, [0, 0], [7, 0]), [4])
        self.assertEqual(count(1, x, [-2, 0], [7, 0]), [5])
        self.assertEqual(count(1, x, [3, 0], [6, 0]), [1])
        self.assertEqual(count(1, x, [-2, 0], [-1, 0]), [1])

    def test_each_m_by_hand(self):
        # From 0 on, below 2: 0, 1, then 1 and w.
        for m in (2, 3, 4):
            x = [0, 0, 2, 0]
            self.assertEqual(count(m, x, [0, 0], [1, 0]), [1])
            self.assertEqual(count(m, x, [0, 0], [2, 0]), [2])
            self.assertEqual(count(m, x, [0, 0], [1, 1]), [2])
            self.assertEqual(count(m, x, [0, 0], [m + 2, 0]), [3])

    def test_all_small_numbers(self):
        for m in EVERY_M:
            for length in lengths(m)[::6]:
                for start in ([0, 0], [-4, 2]):
                    x = window(start, length)
                    points = points_between(m, x, -30, 31)
                    numbers = [[a, b] for a in (-9, 0, 4) for b in (-3, 0, 1, 4)]
                    for y in numbers:
                        for z in numbers:
                            expected = [how_many(m, points, y, z)]
                            self.assertEqual(count(m, x, y, z), expected, (m, x, y, z))

    def test_as_many_as_row_tells(self):
        for m in EVERY_M:
            for length in some_lengths(m):
                x = window([-2, 1], length)
                for y in ([0, 0], [7, -3], [-11, 2]):
                    answer = row(m, 60, x, first(m, x, y)[1:])
                    points = [answer[k:k + 2] for k in range(1, len(answer), 2)]
                    for z in (plus(y, [3, 0]), plus(y, [-2, 2]), points[5], points[59]):
                        self.assertEqual(count(m, x, y, z), [how_many(m, points, y, z)], (m, x, y, z))

    def test_counts_add_up(self):
        for m in EVERY_M:
            for length in few_lengths(m):
                x = window([1, -1], length)
                whole = count(m, x, [-20, 0], [0, 9])[0]
                for between in ([0, 0], [3, 1], [0, -1], [5, 1]):
                    lower = count(m, x, [-20, 0], between)[0]
                    upper = count(m, x, between, [0, 9])[0]
                    self.assertEqual(lower + upper, whole, (m, x, between))


class BesidePoints(unittest.TestCase):
    def test_y_and_z_points(self):
        for m in EVERY_M:
            for length in some_lengths(m):
                x = window([3, -2], length)
                points = points_between(m, x, -6, 7)
                for k, y in list(enumerate(points))[::2]:
                    for away in (0, 1, 2, 3):
                        if k + away < len(points):
                            self.assertEqual(count(m, x, y, points[k + away]), [away], (m, x, y))

    def test_a_little_beside_points(self):
        for m in EVERY_M:
            near = smallest(m)
            for length in few_lengths(m):
                x = window([3, -2], length)
                points = points_between(m, x, -6, 7)
                for y, z in zip(points, points[2:]):
                    self.assertEqual(count(m, x, minus(y, near), z), [2])
                    self.assertEqual(count(m, x, plus(y, near), z), [1])
                    self.assertEqual(count(m, x, y, minus(z, near)), [2])
                    self.assertEqual(count(m, x, y, plus(z, near)), [3])
                    self.assertEqual(count(m, x, minus(y, near), y), [0])
                    self.assertEqual(count(m, x, y, plus(y, near)), [1])
                    self.assertEqual(count(m, x, minus(y, near), plus(y, near)), [1])

    def test_y_and_z_the_same(self):
        for m in EVERY_M:
            for length in few_lengths(m):
                x = window([-4, 2], length)
                for y in [[0, 0], [1, 1], [-3, 5]] + points_between(m, x, -4, 5):
                    self.assertEqual(count(m, x, y, list(y)), [0])
                    self.assertEqual(count(m, x, y, y), [0])

    def test_z_before_y(self):
        for m in EVERY_M:
            near = smallest(m)
            for length in few_lengths(m):
                x = window([-4, 2], length)
                for y in [[0, 0], [1, 1]] + points_between(m, x, -4, 5):
                    for z in (minus(y, near), minus(y, [1, 0]), minus(y, [0, 9]), [-FAR, 0], [-FAR, -FAR]):
                        self.assertEqual(count(m, x, y, z), [0], (m, x, y, z))

    def test_partner_at_u_counts_and_at_v_does_not(self):
        for m in EVERY_M:
            near = smallest(m)
            for length in ([1, 0], [0, 1], [m * m + 1, 0]):
                for start in ([0, 0], [5, -3]):
                    x = window(start, length)
                    lowest = partner(m, x[:2])
                    self.assertEqual(count(m, x, lowest, plus(lowest, near)), [1])
                    highest = partner(m, x[2:])
                    self.assertEqual(count(m, x, highest, plus(highest, near)), [0])


class HowMany(unittest.TestCase):
    def test_up_to_four_hundred(self):
        for m in EVERY_M:
            near = smallest(m)
            for length in few_lengths(m):
                x = window([0, 1], length)
                points = points_around_own(m, x, MOST_AWAY + 2)
                for begin in (2, 3, 200, MOST_AWAY + 2):
                    y = points[begin]
                    for many in (0, 1, 2, 398, 399):
                        self.assertEqual(count(m, x, y, points[begin + many]), [many], (m, x, y, many))
                    z = points[begin + MOST_COUNTED]
                    self.assertEqual(count(m, x, minus(y, near), z), [MOST_COUNTED])
                    self.assertEqual(count(m, x, y, plus(z, near)), REFUSED)
                    self.assertEqual(count(m, x, y, points[begin + 400]), REFUSED)
                    self.assertEqual(count(m, x, y, points[begin + 401]), REFUSED)

    def test_far_more(self):
        for m in EVERY_M:
            for length in few_lengths(m):
                x = window([0, 1], length)
                own = own_point(m, x)
                for z in ([FAR, 0], [0, FAR], [FAR, FAR], [-FAR, FAR]):
                    self.assertEqual(count(m, x, own, z), REFUSED, (m, x, z))

    def test_z_may_be_farther_from_the_own_point_than_y(self):
        # Only where the counting begins is to be near.
        for m in EVERY_M:
            for length in few_lengths(m):
                x = window([0, 1], length)
                points = points_around_own(m, x, 2 * MOST_AWAY)
                y = points[3 * MOST_AWAY]
                self.assertEqual(count(m, x, y, points[-2]), [MOST_COUNTED])
                self.assertEqual(count(m, x, y, points[-1]), REFUSED)


class FourHundredPointsAway(unittest.TestCase):
    def windows(self):
        for m in EVERY_M:
            for length in few_lengths(m):
                for start in ([0, 1], [-300, 170]):
                    x = window(start, length)
                    yield m, x, points_around_own(m, x, MOST_AWAY + 2)

    def test_ahead(self):
        for m, x, points in self.windows():
            before, last, beyond, z = points[-4:]
            near = smallest(m)
            self.assertEqual(count(m, x, before, z), [3], (m, x))
            self.assertEqual(count(m, x, plus(before, near), z), [2], (m, x))
            self.assertEqual(count(m, x, last, z), [2], (m, x))
            self.assertEqual(count(m, x, plus(last, near), z), REFUSED, (m, x))
            self.assertEqual(count(m, x, beyond, z), REFUSED, (m, x))
            self.assertEqual(count(m, x, z, z), REFUSED, (m, x))

    def test_behind(self):
        for m, x, points in self.windows():
            beyond, last, after, z = points[1:5]
            near = smallest(m)
            self.assertEqual(count(m, x, after, z), [1], (m, x))
            self.assertEqual(count(m, x, last, z), [2], (m, x))
            self.assertEqual(count(m, x, plus(beyond, near), z), [2], (m, x))
            self.assertEqual(count(m, x, beyond, z), REFUSED, (m, x))
            self.assertEqual(count(m, x, minus(beyond, near), z), REFUSED, (m, x))
            self.assertEqual(count(m, x, beyond, plus(beyond, near)), REFUSED, (m, x))

    def test_z_before_such_a_y(self):
        for m, x, points in self.windows():
            own = own_point(m, x)
            self.assertEqual(count(m, x, points[-3], own), [0], (m, x))
            self.assertEqual(count(m, x, points[-2], own), REFUSED, (m, x))
            self.assertEqual(count(m, x, points[2], points[0]), [0], (m, x))
            self.assertEqual(count(m, x, points[1], points[0]), REFUSED, (m, x))


class VeryFarAway(unittest.TestCase):
    FAR_NUMBERS = ([FAR, 0], [0, FAR], [FAR, FAR], [-FAR, FAR], [1 - FAR, FAR])

    def test_y_very_far_away(self):
        for m in EVERY_M:
            for length in few_lengths(m):
                x = window([1, -1], length)
                for number in self.FAR_NUMBERS:
                    for y in (number, negative(number)):
                        for z in (y, [0, 0], number, negative(number), plus(y, negative([0, y[1] // FAR]))):
                            self.assertEqual(count(m, x, y, z), REFUSED, (m, x, y, z))

    def test_z_very_far_behind(self):
        for m in EVERY_M:
            for length in few_lengths(m):
                x = window([1, -1], length)
                for number in self.FAR_NUMBERS:
                    self.assertEqual(count(m, x, [0, 0], negative(number)), [0], (m, x, number))

    def test_numbers_that_are_large_but_lie_near(self):
        for m in EVERY_M:
            near = smallest(m)
            for length in few_lengths(m):
                x = window([0, 0], length)
                self.assertEqual(count(m, x, negative(near), near), [1])
                self.assertEqual(count(m, x, near, negative(near)), [0])
                self.assertEqual(count(m, x, [0, 0], near), [1])
                self.assertEqual(count(m, x, negative(near), [0, 0]), [0])

    def test_just_beyond(self):
        for m in EVERY_M:
            x = [FAR - 1, 0, FAR, 0]
            self.assertEqual(count(m, x, [FAR - 1, 0], [FAR, 0]), [1])
            self.assertEqual(count(m, x, [FAR - 1, 0], [FAR + 1, 0]), [-22])
            self.assertEqual(count(m, x, [FAR + 1, 0], [FAR, 0]), [-22])
            x = [-FAR, 0, 1 - FAR, 0]
            self.assertEqual(count(m, x, [-FAR, 0], [1 - FAR, 0]), [1])
            self.assertEqual(count(m, x, [-FAR - 1, 0], [1 - FAR, 0]), [-22])
            self.assertEqual(count(m, x, [-FAR, 0], [-FAR - 1, 0]), [-22])


class WindowsFarFromZero(unittest.TestCase):
    def test_whole_windows(self):
        for m in EVERY_M:
            for far in (FAR - 1, -FAR):
                x = [far, 0, far + 1, 0]
                points = points_around_own(m, x, MOST_AWAY)
                for b in (1, 5, 50, 120):
                    z = [far, b]
                    self.assertEqual(count(m, x, [far, -b], z), [how_many(m, points, [far, -b], z)], (m, x, b))
                self.assertEqual(count(m, x, [0, 0], [far, 0]), REFUSED)

    def test_windows_told_by_w(self):
        for m in EVERY_M:
            for far in (FAR, -FAR):
                for whole in (0, 1 - FAR, FAR - 99):
                    x = [whole, far, whole + 1, far]
                    points = points_around_own(m, x, MOST_AWAY)
                    for less in (0, 1, 30, 98):
                        z = [whole + less, far]
                        self.assertEqual(count(m, x, [whole, far], z), [how_many(m, points, x[:2], z)], (m, x, z))

    def test_windows_moved_by_a_partner(self):
        for m in EVERY_M:
            for length in few_lengths(m):
                x = window([-1, 0], length)
                for move in ([1, 0], [0, 1], [-3, 2], [8, -9], [90000, 0], [-90000, 0]):
                    other = moved_window(x, partner(m, move))
                    for y in ([0, 0], [-4, 3], [2, -2]):
                        for z in ([7, 0], [3, 4], [-3, -3]):
                            expected = count(m, x, y, z)
                            self.assertGreaterEqual(expected[0], 0)
                            answer = count(m, other, plus(y, move), plus(z, move))
                            self.assertEqual(answer, expected, (m, x, move, y, z))


if __name__ == "__main__":
    unittest.main()
