"""next_of: 0, then the next point."""

import unittest

from tests.reference import (EVERY_M, UNIT, lengths, lies_in, minus, partner, partner_place, place, plus,
                             points_between, smallest, window)
from windowpoints.cut import next_of

FAR = 1000000


def walk(m, x, number, how_many):
    """The point number, and so many more, each the next of the one before."""
    found = [number]
    for again in range(how_many):
        answer = next_of(m, x, found[-1])
        if answer[0] != 0 or len(answer) != 3:
            raise AssertionError((m, x, found[-1], answer))
        found.append(answer[1:])
    return found


class OrdinarySteps(unittest.TestCase):
    def test_golden_section_by_hand(self):
        x = [0, 0, 1, 0]
        self.assertEqual(next_of(1, x, [0, 0]), [0, 1, 1])
        self.assertEqual(next_of(1, x, [1, 1]), [0, 2, 2])
        self.assertEqual(next_of(1, x, [2, 2]), [0, 2, 3])
        self.assertEqual(next_of(1, x, [-1, -1]), [-2])

    def test_each_m_by_hand(self):
        # From 0 on, below 2: 0 leads to 1. 1's partner is 1: w is w's partner farther in the window.
        for m in EVERY_M:
            self.assertEqual(next_of(m, [0, 0, 2, 0], [0, 0]), [0, 1, 0])
        self.assertEqual(next_of(2, [0, 0, 2, 0], [1, 0]), [0, 1, 1])
        self.assertEqual(next_of(3, [0, 0, 2, 0], [1, 0]), [0, 1, 1])
        self.assertEqual(next_of(4, [0, 0, 2, 0], [1, 0]), [0, 1, 1])
        # The least step, w less m, has a partner that is w below 0.
        self.assertEqual(next_of(2, [-3, 0, 1, 0], [0, 0]), [0, -2, 1])
        self.assertEqual(next_of(3, [-4, 0, 1, 0], [0, 0]), [0, -3, 1])
        self.assertEqual(next_of(4, [-5, 0, 1, 0], [0, 0]), [0, -4, 1])
        # 1 less the least step has a partner that is w and 1.
        self.assertEqual(next_of(2, [0, 0, 4, 0], [0, 0]), [0, 3, -1])
        self.assertEqual(next_of(4, [0, 0, 15, 0], [0, 0]), [0, 13, -3])

    def test_walks_through_all_points_there_are(self):
        for m in EVERY_M:
            for length in lengths(m):
                for start in ([0, 0], [-4, 2]):
                    x = window(start, length)
                    expected = points_between(m, x, -12, 13)
                    found = walk(m, x, expected[0], len(expected) - 1)
                    self.assertEqual(found, expected, (m, x))

    def test_walks_on_and_on(self):
        for m in EVERY_M:
            x = window([2, -1], [0, 1])
            expected = points_between(m, x, 0, 160)
            self.assertEqual(walk(m, x, expected[0], len(expected) - 1), expected)


class FarthestStep(unittest.TestCase):
    def test_next_point_is_w_and_one_farther_at_most(self):
        for m in EVERY_M:
            for length in lengths(m):
                x = window([1, 1], length)
                found = walk(m, x, partner(m, [1, 1]), 40)
                for before, after in zip(found, found[1:]):
                    self.assertTrue(lies_in(m, x, after))
                    self.assertTrue(0 < place(m, minus(after, before)) <= place(m, [1, 1]))

    def test_length_of_one_has_the_farthest_step(self):
        for m in EVERY_M:
            x = window([7, -4], [1, 0])
            z = partner(m, [7, -4])
            self.assertEqual(next_of(m, x, z), [0] + plus(z, [1, 1]))

    def test_length_of_one_never_steps_by_one(self):
        for m in EVERY_M:
            found = walk(m, [0, 0, 1, 0], [0, 0], 60)
            steps = [minus(after, before) for before, after in zip(found, found[1:])]
            self.assertTrue(all(step in ([0, 1], [1, 1]) for step in steps))
            self.assertIn([0, 1], steps)


class StepsAtTheEdges(unittest.TestCase):
    def test_one_just_fits(self):
        # With a little more than 1 the point at u has 1 farther the next one, at just below v.
        for m in EVERY_M:
            x = window([0, 0], plus([1, 0], smallest(m)))
            self.assertEqual(next_of(m, x, [0, 0]), [0, 1, 0])

    def test_step_back_to_u_itself(self):
        # w's partner leads down to u: a point at u counts, so w is the step.
        for m in EVERY_M:
            u = partner(m, [0, 1])
            x = window(u, [1, 0])
            self.assertEqual(next_of(m, x, [0, 0]), [0, 0, 1])
            lower = window(plus(u, smallest(m)), [1, 0])
            self.assertEqual(next_of(m, lower, [0, 0]), [0, 1, 1])

    def test_step_up_to_v_itself_is_none(self):
        for m in EVERY_M:
            # 1 would lead from u to v.
            self.assertEqual(next_of(m, [0, 0, 1, 0], [0, 0]), [0, 1, 1])
        for m in (2, 3, 4):
            # 1 less the least step would lead from u to v, w and 1 farther; so 1 is the step.
            self.assertEqual(next_of(m, [0, 0, 1, 1], [0, 0]), [0, 1, 0])
            wider = [0, 0] + plus([1, 1], smallest(m))
            self.assertEqual(next_of(m, wider, [0, 0]), [0, 1 + m, -1])

    def test_length_nearly_w_w(self):
        for m in EVERY_M:
            x = window([0, 0], minus([1, m], smallest(m)))
            least = [1 + (m - 1) * m, 1 - m]
            self.assertEqual(next_of(m, x, [0, 0]), [0] + least)
            expected = points_between(m, x, 0, 30)
            self.assertEqual(walk(m, x, [0, 0], len(expected) - 1), expected)

    def test_windows_far_from_zero(self):
        for m in EVERY_M:
            for far in (999990, -1000000):
                x = [far, 0, far + 1, 0]
                self.assertEqual(next_of(m, x, [far, 0]), [0, far + 1, 1])
            # Told by w, with both numbers of z large.
            z = [-400000, 130000]
            u = partner(m, z)
            x = window(u, [0, 1])
            expected = [0] + plus(z, next_of(m, [0, 0, 0, 1], [0, 0])[1:])
            self.assertEqual(next_of(m, x, z), expected)

    def test_numbers_as_far_from_zero_as_they_may_be(self):
        for m in EVERY_M:
            for z in ([FAR, FAR], [FAR, -FAR], [-FAR, FAR], [-FAR, -FAR]):
                whole = partner_place(m, z) // (2 * UNIT)
                if -FAR <= whole < FAR - 1:
                    for wider in (1, 2):
                        x = [whole, 0, whole + wider, 0]
                        low = place(m, z) // (2 * UNIT)
                        nearby = points_between(m, x, low, low + m + 4)
                        expected = nearby[nearby.index(z) + 1]
                        self.assertEqual(next_of(m, x, z), [0] + expected, (m, x, z))

    def test_next_point_may_lie_beyond_what_is_handed_over(self):
        self.assertEqual(next_of(1, [0, FAR, 1, FAR], [FAR, -FAR]), [0, FAR + 1, 1 - FAR])
        self.assertEqual(next_of(1, [0, -FAR, 1, -FAR], [-FAR, FAR]), [0, 1 - FAR, FAR + 1])
        for m in EVERY_M:
            self.assertEqual(next_of(m, [FAR - 1, 0, FAR, 0], [FAR - 1, 0]), [0, FAR, 1])


if __name__ == "__main__":
    unittest.main()
