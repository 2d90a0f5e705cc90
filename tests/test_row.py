"""row: k, then so many points, z first."""

import unittest

from tests.reference import (EVERY_M, few_lengths, lengths, lies_in, minus, moved_window, partner, place, plus,
                             points_around_own, points_between, smallest, some_lengths, window)
from windowpoints.cut import next_of, row

FAR = 1000000
LONGEST = 60


def flat(points):
    return [part for number in points for part in number]


def points_of(answer):
    """The points of a row's answer, two numbers each."""
    return [answer[k:k + 2] for k in range(1, len(answer), 2)]


def led_to(m, x, z, how_many):
    """z, and so many points in all, each the next_of the one before."""
    found = [z]
    while len(found) < how_many:
        found.append(next_of(m, x, found[-1])[1:])
    return found


class OrdinaryRows(unittest.TestCase):
    def test_golden_section_by_hand(self):
        # Points: -1.618.., 0, 2.618.., 5.236.., 6.854..
        x = [0, 0, 1, 0]
        self.assertEqual(row(1, 1, x, [0, 0]), [1, 0, 0])
        self.assertEqual(row(1, 2, x, [0, 0]), [2, 0, 0, 1, 1])
        self.assertEqual(row(1, 5, x, [0, -1]), [5, 0, -1, 0, 0, 1, 1, 2, 2, 2, 3])

    def test_each_m_by_hand(self):
        for m in (2, 3, 4):
            self.assertEqual(row(m, 3, [0, 0, 2, 0], [0, 0]), [3, 0, 0, 1, 0, 1, 1])
        self.assertEqual(row(2, 2, [-3, 0, 1, 0], [0, 0]), [2, 0, 0, -2, 1])
        self.assertEqual(row(3, 2, [-4, 0, 1, 0], [0, 0]), [2, 0, 0, -3, 1])
        self.assertEqual(row(4, 2, [0, 0, 15, 0], [0, 0]), [2, 0, 0, 13, -3])

    def test_all_points_there_are_one_behind_the_other(self):
        for m in EVERY_M:
            for length in lengths(m)[::2]:
                for start in ([0, 0], [-4, 2]):
                    x = window(start, length)
                    expected = points_between(m, x, -9, 9)[:LONGEST]
                    k = len(expected)
                    self.assertEqual(row(m, k, x, expected[0]), [k] + flat(expected), (m, x))

    def test_points_that_next_of_leads_to(self):
        for m in EVERY_M:
            for length in some_lengths(m):
                x = window([3, -2], length)
                for z in points_between(m, x, -5, 6)[::3]:
                    for k in (1, 2, 3, 17):
                        self.assertEqual(row(m, k, x, z), [k] + flat(led_to(m, x, z, k)), (m, k, x, z))

    def test_next_point_is_w_and_one_farther_at_most(self):
        for m in EVERY_M:
            for length in lengths(m):
                x = window([1, 1], length)
                found = points_of(row(m, 40, x, partner(m, [1, 1])))
                self.assertEqual(len(found), 40)
                for before, after in zip(found, found[1:]):
                    self.assertTrue(lies_in(m, x, after))
                    self.assertTrue(0 < place(m, minus(after, before)) <= place(m, [1, 1]))


class HowLong(unittest.TestCase):
    def test_shortest_and_longest_rows(self):
        for m in EVERY_M:
            for length in few_lengths(m):
                x = window([-2, 1], length)
                points = points_around_own(m, x, LONGEST)[LONGEST:]
                for k in (1, 2, 59, 60):
                    self.assertEqual(row(m, k, x, points[0]), [k] + flat(points[:k]), (m, k, x))

    def test_a_row_of_one_is_the_point_itself(self):
        for m in EVERY_M:
            for length in some_lengths(m):
                x = window([5, -3], length)
                for z in points_between(m, x, -4, 5):
                    self.assertEqual(row(m, 1, x, z), [1] + z)

    def test_none_and_too_many(self):
        for m in EVERY_M:
            for k in (0, 61, 62, 400, 4294967295):
                self.assertEqual(row(m, k, [0, 0, 1, 0], [0, 0]), [-22])

    def test_rows_go_on_where_the_last_one_ends(self):
        for m in EVERY_M:
            x = window([2, -1], [0, 1])
            z = points_between(m, x, 0, 9)[0]
            found = [z]
            for again in range(5):
                found += points_of(row(m, LONGEST, x, found[-1]))[1:]
            self.assertEqual(found, points_between(m, x, 0, 2000)[:len(found)])


class RowsAtTheEdges(unittest.TestCase):
    def test_length_of_one(self):
        for m in EVERY_M:
            z = partner(m, [7, -4])
            found = points_of(row(m, LONGEST, window([7, -4], [1, 0]), z))
            self.assertEqual(found[:2], [z, plus(z, [1, 1])])
            steps = [minus(after, before) for before, after in zip(found, found[1:])]
            self.assertTrue(all(step in ([0, 1], [1, 1]) for step in steps))

    def test_length_nearly_w_w(self):
        for m in EVERY_M:
            x = window([0, 0], minus([1, m], smallest(m)))
            expected = points_between(m, x, 0, 60)[:LONGEST]
            self.assertEqual(row(m, LONGEST, x, [0, 0]), [LONGEST] + flat(expected))

    def test_point_at_u(self):
        for m in EVERY_M:
            for length in some_lengths(m):
                for start in ([0, 0], [-7, 4]):
                    x = window(start, length)
                    z = partner(m, start)
                    self.assertEqual(row(m, 9, x, z), [9] + flat(led_to(m, x, z, 9)))

    def test_number_whose_partner_is_v_is_no_point(self):
        for m in EVERY_M:
            for length in some_lengths(m):
                x = window([-7, 4], length)
                self.assertEqual(row(m, 9, x, partner(m, x[2:])), [-2])
                self.assertEqual(row(m, 1, x, partner(m, x[2:])), [-2])

    def test_number_whose_partner_is_v_is_passed_over(self):
        for m in EVERY_M:
            for length in some_lengths(m):
                x = [-length[0], -length[1], 0, 0]
                points = points_between(m, x, -m - 2, m + 4)
                self.assertNotIn([0, 0], points)
                expected = points[:LONGEST]
                self.assertLess(0, place(m, expected[-1]))
                k = len(expected)
                self.assertEqual(row(m, k, x, expected[0]), [k] + flat(expected), (m, x))

    def test_windows_far_from_zero(self):
        for m in EVERY_M:
            near_zero = points_of(row(m, LONGEST, [0, 0, 1, 0], [0, 0]))
            for far in (FAR - 1, -FAR):
                expected = [plus(number, [far, 0]) for number in near_zero]
                self.assertEqual(row(m, LONGEST, [far, 0, far + 1, 0], [far, 0]), [LONGEST] + flat(expected))
            z = [-400000, 130000]
            expected = [plus(number, z) for number in near_zero]
            self.assertEqual(row(m, LONGEST, window(partner(m, z), [1, 0]), z), [LONGEST] + flat(expected))

    def test_points_may_lie_beyond_what_is_handed_over(self):
        self.assertEqual(row(1, 2, [0, FAR, 1, FAR], [FAR, -FAR]), [2, FAR, -FAR, FAR + 1, 1 - FAR])
        for m in EVERY_M:
            x = [FAR - 1, 0, FAR, 0]
            found = points_of(row(m, LONGEST, x, [FAR - 1, 0]))
            self.assertGreater(found[-1][0], FAR)
            self.assertEqual(found, points_between(m, x, FAR - 1, FAR + 400)[:LONGEST])

    def test_windows_moved_by_a_partner(self):
        for m in EVERY_M:
            for length in some_lengths(m):
                x = window([-1, 0], length)
                for z in ([-1, 0], [0, 1], [2, 0], [1, 1]):
                    answer = row(m, 20, x, z)
                    for move in ([1, 0], [0, 1], [-3, 2], [37, -58], [-100000, 60000]):
                        other = moved_window(x, partner(m, move))
                        expected = [answer[0]] + flat([plus(number, move) for number in points_of(answer)])
                        self.assertEqual(row(m, 20, other, plus(z, move)), expected, (m, x, z, move))


if __name__ == "__main__":
    unittest.main()
