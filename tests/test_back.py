"""back: 0, then the point before."""

import unittest

from tests.reference import (EVERY_M, UNIT, lengths, lies_in, minus, partner, partner_place, place, plus,
                             points_between, smallest, window)
from windowpoints.cut import back, next_of

FAR = 1000000


def walk_back(m, x, number, how_many):
    """The point number, and so many more, each the one before the last."""
    found = [number]
    for again in range(how_many):
        answer = back(m, x, found[-1])
        if answer[0] != 0 or len(answer) != 3:
            raise AssertionError((m, x, found[-1], answer))
        found.append(answer[1:])
    return found


class OrdinarySteps(unittest.TestCase):
    def test_golden_section_by_hand(self):
        x = [0, 0, 1, 0]
        self.assertEqual(back(1, x, [2, 3]), [0, 2, 2])
        self.assertEqual(back(1, x, [2, 2]), [0, 1, 1])
        self.assertEqual(back(1, x, [1, 1]), [0, 0, 0])
        self.assertEqual(back(1, x, [0, 0]), [0, 0, -1])
        self.assertEqual(back(1, x, [-1, -1]), [-2])

    def test_each_m_by_hand(self):
        for m in EVERY_M:
            self.assertEqual(back(m, [0, 0, 2, 0], [1, 0]), [0, 0, 0])
        self.assertEqual(back(2, [0, 0, 2, 0], [1, 1]), [0, 1, 0])
        self.assertEqual(back(3, [0, 0, 2, 0], [1, 1]), [0, 1, 0])
        self.assertEqual(back(4, [0, 0, 2, 0], [1, 1]), [0, 1, 0])
        # The least step, w less m: the partner of the point before lies w higher.
        self.assertEqual(back(2, [-3, 0, 1, 0], [-2, 1]), [0, 0, 0])
        self.assertEqual(back(3, [-4, 0, 1, 0], [-3, 1]), [0, 0, 0])
        self.assertEqual(back(4, [-5, 0, 1, 0], [-4, 1]), [0, 0, 0])
        # 1 less the least step, once for 2, three times for 4.
        self.assertEqual(back(2, [0, 0, 4, 0], [3, -1]), [0, 0, 0])
        self.assertEqual(back(4, [0, 0, 15, 0], [13, -3]), [0, 0, 0])

    def test_walks_back_through_all_points_there_are(self):
        for m in EVERY_M:
            for length in lengths(m):
                for start in ([0, 0], [-4, 2]):
                    x = window(start, length)
                    expected = points_between(m, x, -12, 13)[::-1]
                    found = walk_back(m, x, expected[0], len(expected) - 1)
                    self.assertEqual(found, expected, (m, x))

    def test_walks_back_on_and_on(self):
        for m in EVERY_M:
            x = window([2, -1], [0, 1])
            expected = points_between(m, x, -160, 0)[::-1]
            self.assertEqual(walk_back(m, x, expected[0], len(expected) - 1), expected)


class ThereAndBack(unittest.TestCase):
    def test_back_undoes_next_and_next_undoes_back(self):
        for m in EVERY_M:
            for length in lengths(m):
                for start in ([0, 0], [3, -2]):
                    x = window(start, length)
                    for z in points_between(m, x, -9, 10):
                        self.assertEqual(back(m, x, next_of(m, x, z)[1:]), [0] + z, (m, x, z))
                        self.assertEqual(next_of(m, x, back(m, x, z)[1:]), [0] + z, (m, x, z))

    def test_far_from_zero(self):
        for m in EVERY_M:
            z = [-60000, 30000]
            for length in lengths(m):
                x = window(partner(m, z), length)
                self.assertEqual(back(m, x, next_of(m, x, z)[1:]), [0] + z)
                self.assertEqual(next_of(m, x, back(m, x, z)[1:]), [0] + z)


class FarthestStep(unittest.TestCase):
    def test_point_before_is_w_and_one_away_at_most(self):
        for m in EVERY_M:
            for length in lengths(m):
                x = window([1, 1], length)
                found = walk_back(m, x, partner(m, [1, 1]), 40)
                for after, before in zip(found, found[1:]):
                    self.assertTrue(lies_in(m, x, before))
                    self.assertTrue(0 < place(m, minus(after, before)) <= place(m, [1, 1]))

    def test_length_of_one_has_the_farthest_step(self):
        # The farthest step leads down to u itself, nearly from v.
        for m in EVERY_M:
            z = plus(partner(m, [7, -4]), [1, 1])
            self.assertEqual(back(m, window([7, -4], [1, 0]), z), [0] + partner(m, [7, -4]))

    def test_length_of_one_never_steps_by_one(self):
        for m in EVERY_M:
            found = walk_back(m, [0, 0, 1, 0], [0, 0], 60)
            steps = [minus(after, before) for after, before in zip(found, found[1:])]
            self.assertTrue(all(step in ([0, 1], [1, 1]) for step in steps))
            self.assertIn([0, 1], steps)
            self.assertIn([1, 1], steps)


class StepsAtTheEdges(unittest.TestCase):
    def test_step_back_to_u_itself(self):
        # With a little more than 1 the point 1 lies just below v, and 0 at u: a point at u counts.
        for m in EVERY_M:
            near = smallest(m)
            self.assertEqual(back(m, [0, 0] + plus([1, 0], near), [1, 0]), [0, 0, 0])
            # Moved up by that little, with a length of 1, 0 is no point any more.
            self.assertEqual(back(m, near + plus([1, 0], near), [1, 0]), [0, 0, -1])

    def test_step_back_up_to_v_itself_is_none(self):
        # w before 0 lies a number whose partner is w less m: at v it's no point, just below v it is.
        for m in EVERY_M:
            v = partner(m, [0, -1])
            x = minus(v, [1, 0]) + v
            self.assertEqual(back(m, x, [0, 0]), [0, -1, -1])
            higher = plus(v, smallest(m))
            x = minus(higher, [1, 0]) + higher
            self.assertEqual(back(m, x, [0, 0]), [0, 0, -1])

    def test_point_at_u(self):
        # From u the step that led there has a partner below 0.
        for m in EVERY_M:
            for length in lengths(m):
                x = window([0, 0], length)
                nearby = points_between(m, x, -m - 3, 0)
                self.assertEqual(back(m, x, [0, 0]), [0] + nearby[-1], (m, x))

    def test_length_nearly_w_w(self):
        for m in EVERY_M:
            x = window([0, 0], minus([1, m], smallest(m)))
            least = [1 + (m - 1) * m, 1 - m]
            self.assertEqual(back(m, x, least), [0, 0, 0])
            self.assertEqual(back(m, x, [0, 0]), [0, m, -1])
            expected = [[0, 0]] + points_between(m, x, -30, 0)[::-1]
            self.assertEqual(walk_back(m, x, [0, 0], len(expected) - 1), expected)

    def test_windows_far_from_zero(self):
        for m in EVERY_M:
            for far in (999990, -1000000):
                x = [far, 0, far + 1, 0]
                self.assertEqual(back(m, x, [far + 1, 1]), [0, far, 0])
                self.assertEqual(back(m, x, [far, 0]), [0, far, -1])
            z = [-400000, 130000]
            x = window(partner(m, z), [0, 1])
            self.assertEqual(back(m, x, z), [0] + plus(z, back(m, [0, 0, 0, 1], [0, 0])[1:]))

    def test_numbers_as_far_from_zero_as_they_may_be(self):
        some = 0
        for m in EVERY_M:
            for z in ([FAR, FAR], [FAR, -FAR], [-FAR, FAR], [-FAR, -FAR]):
                whole = partner_place(m, z) // (2 * UNIT)
                if -FAR <= whole < FAR - 1:
                    for wider in (1, 2):
                        x = [whole, 0, whole + wider, 0]
                        high = place(m, z) // (2 * UNIT) + 1
                        nearby = points_between(m, x, high - m - 4, high)
                        expected = nearby[nearby.index(z) - 1]
                        self.assertEqual(back(m, x, z), [0] + expected, (m, x, z))
                        some += 1
        self.assertGreater(some, 3)

    def test_point_before_may_lie_beyond_what_is_handed_over(self):
        self.assertEqual(back(1, [0, FAR, 1, FAR], [FAR, -FAR]), [0, FAR, -FAR - 1])
        self.assertEqual(back(1, [-FAR, FAR, 1 - FAR, FAR], [0, -FAR]), [0, 0, -FAR - 1])
        self.assertEqual(back(1, [-FAR, -1, 2 - FAR, -1], [-FAR, 0]), [0, -FAR - 1, 0])
        for m in (2, 3, 4):
            self.assertEqual(back(m, [-FAR, -1, 1 - FAR, 0], [-FAR, 0]), [0, -FAR - 1, 0])


if __name__ == "__main__":
    unittest.main()
