"""Refusals: -22 for what isn't as told; then, of next_of, back and row, -2; of first and count -75."""

import unittest

from tests.reference import EVERY_M, UNIT, minus, own_point, partner, place, plus, smallest, window
from windowpoints.cut import back, count, first, next_of, point, row

FAR = 1000000
FARTHEST_LIST_PART = 2147483647
GOOD_WINDOW = [0, 0, 1, 0]
GOOD_NUMBER = [0, 0]
WRONG_M = (0, 5, 4294967295)
WRONG_K = (0, 61, 4294967295)


class Refusals(unittest.TestCase):
    def refused(self, m, x, z):
        for call in (point, next_of, back, first):
            self.assertEqual(call(m, x, z), [-22], (call, m, x, z))
        for k in (1, 60) + WRONG_K:
            self.assertEqual(row(m, k, x, z), [-22], (m, k, x, z))
        # Of count either number may be the one that isn't as told.
        for y, other in ((z, GOOD_NUMBER), (GOOD_NUMBER, z), (z, z)):
            self.assertEqual(count(m, x, y, other), [-22], (m, x, y, other))

    def taken(self, m, x, z):
        self.assertEqual(point(m, x, z), [1], (m, x, z))
        self.assertEqual(next_of(m, x, z)[0], 0, (m, x, z))
        self.assertEqual(back(m, x, z)[0], 0, (m, x, z))
        self.assertEqual(row(m, 2, x, z), [2] + z + next_of(m, x, z)[1:], (m, x, z))
        self.first_is_z_or_too_far(m, x, z)
        self.nothing_is_counted_or_too_far(m, x, z)

    def not_a_point(self, m, x, z):
        self.assertEqual(point(m, x, z), [0], (m, x, z))
        self.assertEqual(next_of(m, x, z), [-2], (m, x, z))
        self.assertEqual(back(m, x, z), [-2], (m, x, z))
        for k in (1, 2, 60):
            self.assertEqual(row(m, k, x, z), [-2], (m, k, x, z))
        # For first and count a number needn't be a point.
        self.assertIn(first(m, x, z)[0], (0, -75), (m, x, z))
        self.nothing_is_counted_or_too_far(m, x, z)

    def nothing_is_counted_or_too_far(self, m, x, z):
        # There is no point from z on, below z; but for count z is to be as near as for first.
        self.assertEqual(count(m, x, z, z), first(m, x, z)[:1], (m, x, z))

    def first_is_z_or_too_far(self, m, x, z):
        # Points lie as densely as the window's length by the root of m m and 4: below 18 by 4.4 for 4.
        own = own_point(m, x)
        near = abs(place(m, minus(z, own))) < 2 * 90 * UNIT
        self.assertEqual(first(m, x, z), [0] + z if near else [-75], (m, x, z))


class WrongM(Refusals):
    def test_m_is_one_to_four(self):
        for m in WRONG_M + (6, 100):
            self.refused(m, GOOD_WINDOW, GOOD_NUMBER)
        for m in EVERY_M:
            self.taken(m, GOOD_WINDOW, GOOD_NUMBER)


class WrongK(Refusals):
    def test_k_is_one_to_sixty(self):
        for m in EVERY_M:
            for k in WRONG_K + (62, 1000):
                self.assertEqual(row(m, k, GOOD_WINDOW, GOOD_NUMBER), [-22])
            for k in (1, 2, 59, 60):
                answer = row(m, k, GOOD_WINDOW, GOOD_NUMBER)
                self.assertEqual((answer[0], len(answer)), (k, 1 + 2 * k))


class WrongLists(Refusals):
    def test_window_is_four_numbers(self):
        for m in EVERY_M:
            for x in ([], [0], [0, 0], [0, 0, 1], [0, 0, 1, 0, 0], [0, 0, 1, 0, 0, 0, 0, 0]):
                self.refused(m, x, GOOD_NUMBER)

    def test_number_is_two_numbers(self):
        for m in EVERY_M:
            for z in ([], [0], [0, 0, 0], [0, 0, 0, 0], [0, 0, 0, 0, 0, 0, 0, 0]):
                self.refused(m, GOOD_WINDOW, z)

    def test_window_and_number_changed_about(self):
        for m in EVERY_M:
            self.refused(m, GOOD_NUMBER, GOOD_WINDOW)


class WrongLengths(Refusals):
    def test_length_is_one_at_least(self):
        for m in EVERY_M:
            near = smallest(m)
            for start in ([0, 0], [20, -11]):
                z = partner(m, start)
                self.taken(m, window(start, [1, 0]), z)
                self.taken(m, window(start, plus([1, 0], near)), z)
                self.refused(m, window(start, minus([1, 0], near)), z)
                self.refused(m, window(start, [0, 0]), z)
                self.refused(m, window(start, [-1, 0]), z)
                self.refused(m, window(start, [-1, -m]), z)
                self.refused(m, window(start, [-m, 1]), z)
                self.refused(m, window(start, [m, -1]), z)

    def test_length_is_less_than_w_w(self):
        for m in EVERY_M:
            near = smallest(m)
            for start in ([0, 0], [20, -11]):
                z = partner(m, start)
                self.taken(m, window(start, minus([1, m], near)), z)
                self.taken(m, window(start, [m * m + 1, 0]), z)
                self.refused(m, window(start, [1, m]), z)
                self.refused(m, window(start, plus([1, m], near)), z)
                self.refused(m, window(start, [m * m + 2, 0]), z)
                self.refused(m, window(start, [100, 0]), z)
                self.refused(m, window(start, [0, 100]), z)

    def test_length_goes_by_where_numbers_lie(self):
        # 2 less w is below 1, though 2 isn't; 5 less 2 w is 1 at least with the golden section alone.
        self.refused(1, [0, 0, 2, -1], GOOD_NUMBER)
        self.taken(1, [0, 0, 5, -2], GOOD_NUMBER)
        self.refused(2, [0, 0, 5, -2], GOOD_NUMBER)
        # 3 is below the square of w but for the golden section.
        self.refused(1, [0, 0, 3, 0], GOOD_NUMBER)
        self.taken(2, [0, 0, 3, 0], GOOD_NUMBER)


class TooFarNumbers(Refusals):
    def test_z_just_beyond(self):
        for m in EVERY_M:
            self.taken(m, [FAR - 1, 0, FAR, 0], [FAR - 1, 0])
            self.taken(m, [-FAR, 0, 1 - FAR, 0], [-FAR, 0])
            self.not_a_point(m, GOOD_WINDOW, [FAR, 0])
            self.not_a_point(m, GOOD_WINDOW, [0, FAR])
            self.not_a_point(m, GOOD_WINDOW, [-FAR, 0])
            self.not_a_point(m, GOOD_WINDOW, [0, -FAR])
            for far in (FAR + 1, -FAR - 1, FARTHEST_LIST_PART, -FARTHEST_LIST_PART):
                self.refused(m, GOOD_WINDOW, [far, 0])
                self.refused(m, GOOD_WINDOW, [0, far])

    def test_z_just_beyond_that_would_be_a_point(self):
        self.taken(1, [0, FAR, 1, FAR], [FAR, -FAR])
        self.refused(1, [0, FAR, 1, FAR], [FAR + 1, 1 - FAR])
        self.taken(1, [0, -FAR, 1, -FAR], [-FAR, FAR])
        self.refused(1, [0, -FAR, 1, -FAR], [1 - FAR, FAR + 1])

    def test_x_just_beyond(self):
        for m in EVERY_M:
            self.not_a_point(m, [FAR - 1, FAR, FAR, FAR], GOOD_NUMBER)
            self.not_a_point(m, [-FAR, -FAR, 1 - FAR, -FAR], GOOD_NUMBER)
            self.refused(m, [FAR, 0, FAR + 1, 0], [FAR, 0])
            self.refused(m, [-FAR - 1, 0, -FAR, 0], GOOD_NUMBER)
            self.refused(m, [0, FAR, 0, FAR + 1], GOOD_NUMBER)
            self.refused(m, [0, -FAR - 1, 0, -FAR], GOOD_NUMBER)
            self.refused(m, [0, FAR + 1, 1, FAR + 1], GOOD_NUMBER)
            far = FARTHEST_LIST_PART
            self.refused(m, [far - 1, 0, far, 0], GOOD_NUMBER)
            self.refused(m, [-far, 0, 1 - far, 0], GOOD_NUMBER)
            self.refused(m, [0, far, 1, far], GOOD_NUMBER)


class NotPoints(Refusals):
    def test_number_beside_the_window(self):
        for m in EVERY_M:
            self.not_a_point(m, GOOD_WINDOW, [1, 0])
            self.not_a_point(m, GOOD_WINDOW, [-1, 0])
            self.not_a_point(m, GOOD_WINDOW, [0, 1])
            self.not_a_point(m, GOOD_WINDOW, [40, 7])

    def test_number_whose_partner_is_v_or_just_below_u(self):
        for m in EVERY_M:
            for start in ([0, 0], [-9, 5]):
                x = window(start, [1, 0])
                self.taken(m, x, partner(m, start))
                self.not_a_point(m, x, partner(m, x[2:]))
                self.not_a_point(m, x, partner(m, minus(start, smallest(m))))


class EachListOfCount(unittest.TestCase):
    def test_y_and_z_each_by_itself(self):
        for m in EVERY_M:
            self.assertEqual(count(m, GOOD_WINDOW, [0, 0], [1, 0]), [1])
            for wrong in ([], [0], [0, 0, 0], [0] * 8, [FAR + 1, 0], [0, FAR + 1], [-FAR - 1, 0], [0, -FAR - 1],
                          [FARTHEST_LIST_PART, 0], [0, -FARTHEST_LIST_PART]):
                self.assertEqual(count(m, GOOD_WINDOW, wrong, [1, 0]), [-22], wrong)
                self.assertEqual(count(m, GOOD_WINDOW, [0, 0], wrong), [-22], wrong)
                # z before y or not: what isn't as told is refused.
                self.assertEqual(count(m, GOOD_WINDOW, [1, 0], wrong), [-22], wrong)


class TooFarForFirst(unittest.TestCase):
    def test_y_too_far_from_the_own_point(self):
        for m in EVERY_M:
            for y in ([FAR, 0], [-FAR, 0], [0, FAR], [0, -FAR]):
                self.assertEqual(first(m, GOOD_WINDOW, y), [-75])
            self.assertEqual(first(m, [FAR - 1, FAR, FAR, FAR], GOOD_NUMBER), [-75])
            self.assertEqual(first(m, [-FAR, -FAR, 1 - FAR, -FAR], GOOD_NUMBER), [-75])

    def test_too_far_or_too_many_for_count(self):
        for m in EVERY_M:
            for y in ([FAR, 0], [-FAR, 0], [0, FAR], [0, -FAR]):
                for z in (y, GOOD_NUMBER, [FAR, FAR], [-FAR, -FAR]):
                    self.assertEqual(count(m, GOOD_WINDOW, y, z), [-75], (m, y, z))
            self.assertEqual(count(m, GOOD_WINDOW, GOOD_NUMBER, [FAR, 0]), [-75])
            self.assertEqual(count(m, GOOD_WINDOW, GOOD_NUMBER, [0, FAR]), [-75])
            self.assertEqual(count(m, [FAR - 1, FAR, FAR, FAR], GOOD_NUMBER, [1, 0]), [-75])


class SeveralFaults(Refusals):
    def test_what_is_told_first_is_answered(self):
        no_point = [40, 7]
        for m in WRONG_M:
            self.refused(m, GOOD_WINDOW, no_point)
            self.refused(m, [], [])
            self.refused(m, [0, 0, 0, 0], [FAR + 1, 0])
        for m in EVERY_M:
            self.refused(m, [0, 0, 0, 0], no_point)
            self.refused(m, [0, 0, 1, m], no_point)
            self.refused(m, [0, 0, 1], no_point)
            self.refused(m, GOOD_WINDOW, no_point + [0])
            self.refused(m, GOOD_WINDOW, [FAR + 1, 7])
            self.refused(m, [], [])
            self.refused(m, [FAR + 1, 0, FAR + 2, 0], [FAR + 1, 0])

    def test_what_is_not_as_told_goes_ahead_of_too_far(self):
        too_far = [FAR, FAR]
        for m in WRONG_M:
            self.refused(m, GOOD_WINDOW, too_far)
        for m in EVERY_M:
            self.assertEqual(first(m, GOOD_WINDOW, too_far), [-75])
            self.refused(m, [0, 0, 0, 0], too_far)
            self.refused(m, [0, 0, 1, m], too_far)
            self.refused(m, [0, 0, 1, 0, 0], too_far)
            self.refused(m, GOOD_WINDOW, too_far + [0])
            self.refused(m, GOOD_WINDOW, [FAR, FAR + 1])

    def test_wrong_k_goes_ahead_of_no_point(self):
        no_point = [40, 7]
        for m in EVERY_M:
            self.assertEqual(row(m, 60, GOOD_WINDOW, no_point), [-2])
            for k in WRONG_K:
                self.assertEqual(row(m, k, GOOD_WINDOW, no_point), [-22], (m, k))
                self.assertEqual(row(m, k, [0, 0, 0, 0], no_point), [-22], (m, k))

    def test_a_wrong_number_goes_ahead_of_too_far_or_too_many(self):
        too_far = [FAR, FAR]
        for m in EVERY_M:
            self.assertEqual(count(m, GOOD_WINDOW, too_far, GOOD_NUMBER), [-75])
            self.assertEqual(count(m, GOOD_WINDOW, GOOD_NUMBER, too_far), [-75])
            for wrong in ([], [0], [0, 0, 0], [FAR + 1, 0], [0, -FAR - 1]):
                self.assertEqual(count(m, GOOD_WINDOW, too_far, wrong), [-22], wrong)
                self.assertEqual(count(m, GOOD_WINDOW, wrong, too_far), [-22], wrong)


if __name__ == "__main__":
    unittest.main()
