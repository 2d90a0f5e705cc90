"""point: 1 if z is a point of window x, else 0."""

import unittest

from tests.reference import EVERY_M, UNIT, lengths, lies_in, minus, partner, partner_place, plus, smallest, window
from windowpoints.cut import point


class OrdinaryPoints(unittest.TestCase):
    def test_golden_section_by_hand(self):
        # Partners: 0; 1; -0.618..; 0.381..; 0.763..; 0.145..
        x = [0, 0, 1, 0]
        self.assertEqual(point(1, x, [0, 0]), [1])
        self.assertEqual(point(1, x, [1, 0]), [0])
        self.assertEqual(point(1, x, [0, 1]), [0])
        self.assertEqual(point(1, x, [1, 1]), [1])
        self.assertEqual(point(1, x, [2, 2]), [1])
        self.assertEqual(point(1, x, [2, 3]), [1])

    def test_other_m_by_hand(self):
        # w's partner: -0.414.. for 2, -0.302.. for 3, -0.236.. for 4.
        self.assertEqual(point(2, [0, 0, 1, 0], [1, 2]), [1])
        self.assertEqual(point(2, [0, 0, 1, 0], [1, 3]), [0])
        self.assertEqual(point(3, [0, 0, 1, 0], [1, 3]), [1])
        self.assertEqual(point(3, [0, 0, 1, 0], [1, 4]), [0])
        self.assertEqual(point(4, [0, 0, 1, 0], [1, 4]), [1])
        self.assertEqual(point(4, [0, 0, 1, 0], [1, 5]), [0])

    def test_window_is_told_with_w_itself(self):
        # From w (1.618..) on, below w and 1: 2 lies in it, 1 and 3 don't.
        self.assertEqual(point(1, [0, 1, 1, 1], [1, 0]), [0])
        self.assertEqual(point(1, [0, 1, 1, 1], [2, 0]), [1])
        self.assertEqual(point(1, [0, 1, 1, 1], [3, 0]), [0])

    def test_all_small_numbers(self):
        for m in EVERY_M:
            for length in lengths(m)[::3]:
                x = window([-1, 1], length)
                for a in range(-12, 13, 2):
                    for b in range(-9, 10):
                        expected = [1 if lies_in(m, x, [a, b]) else 0]
                        self.assertEqual(point(m, x, [a, b]), expected, (m, x, a, b))


class PointsAtTheEdges(unittest.TestCase):
    def test_partner_at_u_is_in_and_at_v_is_out(self):
        for m in EVERY_M:
            for length in lengths(m):
                for start in ([0, 0], [5, -3], [-70, 41]):
                    x = window(start, length)
                    self.assertEqual(point(m, x, partner(m, x[:2])), [1], (m, x))
                    self.assertEqual(point(m, x, partner(m, x[2:])), [0], (m, x))

    def test_partner_just_beside_u_and_v(self):
        for m in EVERY_M:
            near = smallest(m)
            for length in ([1, 0], [0, 1]):
                x = window([3, -2], length)
                self.assertEqual(point(m, x, partner(m, plus(x[:2], near))), [1])
                self.assertEqual(point(m, x, partner(m, minus(x[:2], near))), [0])
                self.assertEqual(point(m, x, partner(m, plus(x[2:], near))), [0])
                self.assertEqual(point(m, x, partner(m, minus(x[2:], near))), [1])

    def test_a_window_that_is_far_from_zero(self):
        for m in EVERY_M:
            # The farthest windows: no number that may be handed over has its partner there.
            for x in ([999999, 1000000, 1000000, 1000000], [-1000000, -1000000, -999999, -1000000]):
                for z in ([0, 0], [1000000, -1000000], [-1000000, 1000000]):
                    self.assertEqual(point(m, x, z), [0])
            for far in (999999, -1000000):
                x = [far, 0, far + 1, 0]
                self.assertEqual(point(m, x, [far, 0]), [1])
                self.assertEqual(point(m, x, [far + 1, 0] if far < 0 else [far - 1, 0]), [0])

    def test_numbers_as_far_from_zero_as_they_may_be(self):
        far = 1000000
        for m in EVERY_M:
            for z in ([far, far], [far, -far], [-far, far], [-far, -far]):
                # The whole number that isn't above the partner, and the one behind it.
                whole = partner_place(m, z) // (2 * UNIT)
                if -far <= whole < far:
                    self.assertEqual(point(m, [whole, 0, whole + 1, 0], z), [1], (m, z))
                    self.assertEqual(point(m, [whole - 1, 0, whole, 0], z), [0], (m, z))
        # The partner of the golden one of these lies at u itself, at v itself.
        self.assertEqual(point(1, [0, far, 1, far], [far, -far]), [1])
        self.assertEqual(point(1, [-1, far, 0, far], [far, -far]), [0])
        self.assertEqual(point(1, [0, -far, 1, -far], [-far, far]), [1])
        self.assertEqual(point(1, [-1, -far, 0, -far], [-far, far]), [0])


if __name__ == "__main__":
    unittest.main()
