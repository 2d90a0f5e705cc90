"""first: 0, then the least point that isn't below y; -75 if it is too far from the window's own."""

import unittest

from tests.reference import (EVERY_M, few_lengths, lengths, lies_in, minus, own_point, partner, place, plus,
                             points_around_own, points_between, smallest, some_lengths, window)
from windowpoints.cut import back, first, next_of

FAR = 1000000
TOO_FAR = [-75]
MOST = 400


def least_not_below(m, points, y):
    return [number for number in points if place(m, number) >= place(m, y)][0]


class OrdinaryNumbers(unittest.TestCase):
    def test_golden_section_by_hand(self):
        # Points: -1.618.., 0, 2.618.., 5.236.., 6.854..
        x = [0, 0, 1, 0]
        self.assertEqual(first(1, x, [-1, 0]), [0, 0, 0])
        self.assertEqual(first(1, x, [0, 0]), [0, 0, 0])
        self.assertEqual(first(1, x, [1, 0]), [0, 1, 1])
        self.assertEqual(first(1, x, [0, 1]), [0, 1, 1])
        self.assertEqual(first(1, x, [3, 0]), [0, 2, 2])
        self.assertEqual(first(1, x, [6, 0]), [0, 2, 3])
        self.assertEqual(first(1, x, [-2, 0]), [0, 0, -1])

    def test_each_m_by_hand(self):
        for m in EVERY_M:
            self.assertEqual(first(m, [0, 0, 2, 0], [0, 0]), [0, 0, 0])
            self.assertEqual(first(m, [0, 0, 2, 0], [1, 0]), [0, 1, 0])
            self.assertEqual(first(m, [0, 0, 1, 0], [1, 0]), [0, 1, 1])
            self.assertEqual(first(m, [0, 0, 1, 0], [-1, 0]), [0, 0, 0])
            self.assertEqual(first(m, [0, 0, 1, 0], [0, -1]), [0, 0, -1])
            self.assertEqual(first(m, [0, 0, 1, 0], [1, -1]), [0, 0, 0])

    def test_all_small_numbers(self):
        for m in EVERY_M:
            for length in lengths(m)[::4]:
                for start in ([0, 0], [-4, 2], [1, -1]):
                    x = window(start, length)
                    points = points_between(m, x, -40, 45)
                    for y in [[a, b] for a in range(-12, 13, 5) for b in range(-4, 5, 2)]:
                        expected = [0] + least_not_below(m, points, y)
                        self.assertEqual(first(m, x, y), expected, (m, x, y))

    def test_none_lies_between(self):
        for m in EVERY_M:
            for length in lengths(m)[::5]:
                x = window([-2, 1], length)
                for y in ([0, 0], [7, -3], [-11, 2], [5, 5], [-6, -6]):
                    found = first(m, x, y)[1:]
                    self.assertTrue(lies_in(m, x, found))
                    self.assertGreaterEqual(place(m, found), place(m, y))
                    self.assertLess(place(m, back(m, x, found)[1:]), place(m, y))
                    self.assertLessEqual(place(m, minus(found, y)), place(m, [1, 1]))


class BesidePoints(unittest.TestCase):
    def test_y_a_point(self):
        for m in EVERY_M:
            for length in lengths(m)[::3]:
                x = window([3, -2], length)
                for y in points_between(m, x, -8, 9):
                    self.assertEqual(first(m, x, y), [0] + y, (m, x, y))

    def test_y_a_little_beside_a_point(self):
        for m in EVERY_M:
            near = smallest(m)
            for length in some_lengths(m):
                x = window([3, -2], length)
                for z in points_between(m, x, -8, 9):
                    self.assertEqual(first(m, x, minus(z, near)), [0] + z, (m, x, z))
                    self.assertEqual(first(m, x, plus(z, near)), next_of(m, x, z), (m, x, z))

    def test_number_whose_partner_is_v_is_passed_over(self):
        for m in EVERY_M:
            for length in some_lengths(m):
                x = [-length[0], -length[1], 0, 0]
                points = points_between(m, x, 0, m + 4)
                self.assertNotIn([0, 0], points)
                self.assertEqual(first(m, x, [0, 0]), [0] + points[0], (m, x))

    def test_number_whose_partner_is_u_counts(self):
        for m in EVERY_M:
            for length in some_lengths(m):
                for start in ([0, 0], [5, -3], [-7, 4]):
                    y = partner(m, start)
                    self.assertEqual(first(m, window(start, length), y), [0] + y)


class BesideTheOwnPoint(unittest.TestCase):
    STARTS = ([0, 0], [5, 0], [-5, 0], [0, 1], [0, -1], [-3, 2], [7, -4], [1, 12], [-1, -12])

    def test_own_point_the_one_ahead_and_the_one_behind(self):
        for m in EVERY_M:
            for length in some_lengths(m):
                for start in self.STARTS:
                    x = window(start, length)
                    behind, own, ahead = points_around_own(m, x, 1)
                    self.assertEqual(first(m, x, own), [0] + own, (m, x))
                    self.assertEqual(first(m, x, ahead), [0] + ahead, (m, x))
                    self.assertEqual(first(m, x, behind), [0] + behind, (m, x))

    def test_just_ahead_of_and_just_behind_the_own_point(self):
        for m in EVERY_M:
            near = smallest(m)
            for length in some_lengths(m):
                for start in self.STARTS:
                    x = window(start, length)
                    behind, own, ahead = points_around_own(m, x, 1)
                    self.assertEqual(first(m, x, plus(own, near)), [0] + ahead, (m, x))
                    self.assertEqual(first(m, x, minus(own, near)), [0] + own, (m, x))
                    self.assertEqual(first(m, x, plus(behind, near)), [0] + own, (m, x))
                    self.assertEqual(first(m, x, minus(behind, near)), [0] + behind, (m, x))


class FourHundredPointsAway(unittest.TestCase):
    STARTS = ([0, 1], [-300, 170])

    def windows(self):
        for m in EVERY_M:
            for length in few_lengths(m):
                for start in self.STARTS:
                    x = window(start, length)
                    yield m, x, points_around_own(m, x, MOST + 1)

    def test_ahead(self):
        for m, x, points in self.windows():
            before, last, beyond = points[-3:]
            near = smallest(m)
            self.assertEqual(first(m, x, before), [0] + before, (m, x))
            self.assertEqual(first(m, x, plus(before, near)), [0] + last, (m, x))
            self.assertEqual(first(m, x, last), [0] + last, (m, x))
            self.assertEqual(first(m, x, plus(last, near)), TOO_FAR, (m, x))
            self.assertEqual(first(m, x, beyond), TOO_FAR, (m, x))
            self.assertEqual(first(m, x, plus(beyond, near)), TOO_FAR, (m, x))

    def test_behind(self):
        for m, x, points in self.windows():
            beyond, last, after = points[:3]
            near = smallest(m)
            self.assertEqual(first(m, x, after), [0] + after, (m, x))
            self.assertEqual(first(m, x, last), [0] + last, (m, x))
            self.assertEqual(first(m, x, plus(beyond, near)), [0] + last, (m, x))
            self.assertEqual(first(m, x, beyond), TOO_FAR, (m, x))
            self.assertEqual(first(m, x, minus(beyond, near)), TOO_FAR, (m, x))

    def test_all_between(self):
        for m in EVERY_M:
            x = window([2, 1], [0, 1])
            for y in points_around_own(m, x, MOST)[::13]:
                self.assertEqual(first(m, x, y), [0] + y, (m, y))


class VeryFarAway(unittest.TestCase):
    def test_y_very_far_away(self):
        for m in EVERY_M:
            for length in few_lengths(m):
                x = window([1, -1], length)
                for a in (-FAR, 0, FAR):
                    for b in (-FAR, 0, FAR):
                        if (a, b) != (0, 0):
                            self.assertEqual(first(m, x, [a, b]), TOO_FAR, (m, x, a, b))

    def test_y_of_large_numbers_that_lies_near(self):
        # What counts is where y lies, not how large its two numbers are.
        for m in EVERY_M:
            near = smallest(m)
            for length in few_lengths(m):
                x = window([0, 0], length)
                behind, own, ahead = points_around_own(m, x, 1)
                self.assertEqual(own, [0, 0])
                self.assertEqual(first(m, x, near), [0] + ahead)
                self.assertEqual(first(m, x, minus([0, 0], near)), [0] + own)

    def test_a_point_by_the_window_may_be_too_far_from_its_own(self):
        # The window's own point lies near the window, z far from there: at the other side of 0.
        for m in EVERY_M:
            z = [0, 100000]
            x = window(partner(m, z), [1, 0])
            self.assertTrue(lies_in(m, x, z))
            self.assertEqual(first(m, x, z), TOO_FAR)


class WindowsFarFromZero(unittest.TestCase):
    def test_whole_windows(self):
        for m in EVERY_M:
            for far in (FAR - 1, -FAR):
                x = [far, 0, far + 1, 0]
                self.assertEqual(first(m, x, [far, 0]), [0, far, 0])
                self.assertEqual(first(m, x, [far, 1]), [0, far + 1, 1])
                self.assertEqual(first(m, x, [far, -1]), [0, far, -1])
                self.assertEqual(first(m, x, [0, 0]), TOO_FAR)

    def test_windows_told_by_w(self):
        for m in EVERY_M:
            for far in (FAR, -FAR):
                for whole in (0, 1 - FAR, FAR - 2):
                    x = [whole, far, whole + 1, far]
                    points = points_around_own(m, x, MOST)
                    own = own_point(m, x)
                    self.assertEqual(first(m, x, x[:2]), [0] + own, (m, x))
                    self.assertEqual(first(m, x, [0, -far]), TOO_FAR, (m, x))
                    for less in range(-900, 900, 45):
                        y = [whole + less, far]
                        if abs(y[0]) <= FAR and place(m, points[0]) < place(m, y) <= place(m, points[-1]):
                            self.assertEqual(first(m, x, y), [0] + least_not_below(m, points, y), (m, x, y))

    def test_four_hundred_points_away(self):
        for m in EVERY_M:
            for far in (FAR - 1, -FAR):
                x = [far, 0, far + 1, 0]
                points = points_around_own(m, x, MOST + 1)
                for number in points[:3] + points[::50] + points[-3:]:
                    if abs(number[0]) <= FAR:
                        expected = TOO_FAR if number in (points[0], points[-1]) else [0] + number
                        self.assertEqual(first(m, x, number), expected, (m, x, number))

    def test_answer_may_lie_beyond_what_is_handed_over(self):
        # 1,000,000 w lies just below these whole numbers.
        self.assertEqual(first(1, [0, FAR, 1, FAR], [0, FAR]), [0, 1618034, 0])
        self.assertEqual(first(2, [0, FAR, 1, FAR], [0, FAR]), [0, 2414214, 0])
        self.assertEqual(first(3, [0, FAR, 1, FAR], [0, FAR]), [0, 3302776, 0])
        self.assertEqual(first(4, [0, FAR, 1, FAR], [0, FAR]), [0, 4236068, 0])
        self.assertEqual(first(4, [FAR - 1, FAR, FAR, FAR], [FAR, FAR]), [0, 5 * FAR + 236068, 1])
        self.assertEqual(first(4, [-FAR, -FAR, 1 - FAR, -FAR], [-FAR, -FAR]), [0, -5 * FAR - 236067, 0])


if __name__ == "__main__":
    unittest.main()
