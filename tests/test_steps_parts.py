"""steps: how many, then the steps, rising; parts: how many, then each step and its part of the window."""

import unittest

from tests.reference import (EVERY_M, few_lengths, is_length, lengths, lies_in, minus, moved_window, partner,
                             partner_place, place, plus, points_between, smallest, some_lengths, times, window)
from windowpoints.cut import next_of, parts, row, steps

FAR = 1000000
# Some with a u that is no whole number; with a length of whole numbers v isn't one either.
STARTS = ([0, 0], [-4, 2], [3, -2], [0, 1])


def steps_of(m, x):
    answer = steps(m, x)
    if answer[0] not in (2, 3) or len(answer) != 1 + 2 * answer[0]:
        raise AssertionError((m, x, answer))
    return [answer[k:k + 2] for k in range(1, len(answer), 2)]


def parts_of(m, x):
    """Of each part its step and where it is: [step, part], the part told like a window."""
    answer = parts(m, x)
    if answer[0] not in (2, 3) or len(answer) != 1 + 6 * answer[0]:
        raise AssertionError((m, x, answer))
    return [[answer[k:k + 2], answer[k + 2:k + 6]] for k in range(1, len(answer), 6)]


def two_step_lengths(m):
    """The lengths that are just those of a step up and a step down in the window."""
    ups = [[1, j] for j in range(m)]
    downs = [[1 + k - m, 1] for k in range(m)]
    return ups + downs


def every_window(m):
    return [window(start, length) for length in lengths(m) for start in STARTS]


class OrdinaryWindows(unittest.TestCase):
    def test_golden_section_by_hand(self):
        # From 0.618.. on w leads down to 0 at least; below that w and 1 leads up by 0.381..
        self.assertEqual(steps(1, [0, 0, 1, 0]), [2, 0, 1, 1, 1])
        self.assertEqual(parts(1, [0, 0, 1, 0]), [2, 0, 1, -1, 1, 1, 0, 1, 1, 0, 0, -1, 1])
        # From 0 on, below 2: 1 leads up from below 1, w less 1 down from w on, w from between.
        self.assertEqual(steps(1, [0, 0, 2, 0]), [3, -1, 1, 1, 0, 0, 1])
        self.assertEqual(parts(1, [0, 0, 2, 0]),
                         [3, -1, 1, 0, 1, 2, 0, 1, 0, 0, 0, 1, 0, 0, 1, 1, 0, 0, 1])

    def test_each_m_by_hand(self):
        # From 0 on, below 2: 1 leads up from below 1, w less 1 down from 1 and w less m on, w from between.
        for m in (2, 3, 4):
            x = [0, 0, 2, 0]
            self.assertEqual(steps(m, x), [3, 1, 0, -1, 1, 0, 1])
            self.assertEqual(parts(m, x), [3, 1, 0, 0, 0, 1, 0, -1, 1, 1 - m, 1, 2, 0, 0, 1, 1, 0, 1 - m, 1])
        # Up by 1 and (m less 1) w, down by w.
        self.assertEqual(parts(2, [0, 0, 5, 0]),
                         [3, -2, 1, 0, 1, 5, 0, 3, -1, 0, 0, 4, -1, 1, 0, 4, -1, 0, 1])
        self.assertEqual(parts(3, [0, 0, 10, 0]),
                         [3, -3, 1, 0, 1, 10, 0, 7, -2, 0, 0, 9, -2, 4, -1, 9, -2, 0, 1])
        self.assertEqual(parts(4, [0, 0, 17, 0]),
                         [3, -4, 1, 0, 1, 17, 0, 13, -3, 0, 0, 16, -3, 9, -2, 16, -3, 0, 1])

    def test_parts_have_the_steps_in_the_same_order(self):
        for m in EVERY_M:
            for x in every_window(m):
                self.assertEqual([step for step, part in parts_of(m, x)], steps_of(m, x), (m, x))

    def test_steps_are_rising(self):
        for m in EVERY_M:
            for x in every_window(m):
                places = [place(m, step) for step in steps_of(m, x)]
                self.assertLess(0, places[0])
                self.assertTrue(all(left < right for left, right in zip(places, places[1:])), (m, x))
                self.assertLessEqual(places[-1], place(m, [1, 1]))


class StepsOfPoints(unittest.TestCase):
    def test_each_point_has_the_step_of_its_part(self):
        for m in EVERY_M:
            for length in lengths(m):
                for start in STARTS[1:3]:
                    x = window(start, length)
                    found = parts_of(m, x)
                    points = points_between(m, x, -14, 15)
                    for before, after in zip(points, points[1:]):
                        leading = [step for step, part in found if lies_in(m, part, before)]
                        self.assertEqual(leading, [minus(after, before)], (m, x, before))

    def test_steps_that_next_of_leads_by(self):
        for m in EVERY_M:
            for length in some_lengths(m):
                x = window([-7, 4], length)
                found = parts_of(m, x)
                for z in points_between(m, x, -9, 10):
                    leading = [plus(z, step) for step, part in found if lies_in(m, part, z)]
                    self.assertEqual([next_of(m, x, z)[1:]], leading, (m, x, z))

    def test_points_whose_partner_is_the_first_number_of_a_part(self):
        for m in EVERY_M:
            for x in every_window(m):
                for step, part in parts_of(m, x):
                    z = partner(m, part[:2])
                    if max(abs(number) for number in z) <= FAR:
                        self.assertEqual(next_of(m, x, z), [0] + plus(z, step), (m, x, step))

    def test_points_just_below_the_end_of_a_part(self):
        for m in EVERY_M:
            near = smallest(m)
            some = 0
            for length in [[a, b] for a in range(-18, 19, 2) for b in range(-4, 5)] + [[1, 0]]:
                if is_length(m, length):
                    x = window([3, -2], length)
                    for step, part in parts_of(m, x):
                        z = partner(m, minus(part[2:], near))
                        if max(abs(number) for number in z) <= FAR:
                            some += 1
                            self.assertEqual(next_of(m, x, z), [0] + plus(z, step), (m, x, step))
            self.assertGreater(some, 10)

    def test_steps_are_those_that_a_long_row_shows(self):
        for m in EVERY_M:
            for length in ([1, 0], [2, 0], [0, 1], [1 - m, 1], [2 - m, 1], [1, m - 1], [m * m + 1, 0], [m + 1, 0]):
                if not is_length(m, length):
                    continue
                for start in STARTS[:2]:
                    x = window(start, length)
                    points = points_between(m, x, -150, 151)
                    shown = [minus(after, before) for before, after in zip(points, points[1:])]
                    different = [list(step) for step in set(tuple(step) for step in shown)]
                    expected = sorted(different, key=lambda step: place(m, step))
                    self.assertEqual(steps_of(m, x), expected, (m, x))

    def test_steps_are_those_that_rows_of_the_program_show(self):
        for m in EVERY_M:
            x = window([-1, 1], [m, 0] if m > 1 else [2, 0])
            z = partner(m, [-1, 1])
            shown = []
            for again in range(10):
                answer = row(m, 60, x, z)
                points = [answer[k:k + 2] for k in range(1, len(answer), 2)]
                shown += [minus(after, before) for before, after in zip(points, points[1:])]
                z = points[-1]
            self.assertEqual(sorted(steps_of(m, x)), sorted(list(step) for step in set(map(tuple, shown))))


class PartsFillTheWindow(unittest.TestCase):
    def test_no_part_is_empty_and_none_overlap(self):
        for m in EVERY_M:
            for x in every_window(m):
                found = sorted([part for step, part in parts_of(m, x)], key=lambda part: place(m, part[:2]))
                self.assertEqual(found[0][:2], x[:2], (m, x))
                self.assertEqual(found[-1][2:], x[2:], (m, x))
                for part in found:
                    self.assertLess(place(m, part[:2]), place(m, part[2:]), (m, x))
                for lower, upper in zip(found, found[1:]):
                    self.assertEqual(lower[2:], upper[:2], (m, x))

    def test_steps_times_lengths_are_w_less_its_partner(self):
        for m in EVERY_M:
            w_less_partner = minus([0, 1], partner(m, [0, 1]))
            for x in every_window(m):
                together = [0, 0]
                for step, part in parts_of(m, x):
                    together = plus(together, times(m, step, minus(part[2:], part[:2])))
                self.assertEqual(together, w_less_partner, (m, x))

    def test_each_step_leads_into_the_window_from_all_its_part(self):
        for m in EVERY_M:
            for x in every_window(m):
                for step, part in parts_of(m, x):
                    self.assertLessEqual(place(m, x[:2]), place(m, part[:2]) + partner_place(m, step))
                    self.assertLessEqual(place(m, part[2:]) + partner_place(m, step), place(m, x[2:]))


class TwoOrThree(unittest.TestCase):
    def test_two_steps(self):
        for m in EVERY_M:
            for length in two_step_lengths(m):
                self.assertTrue(is_length(m, length))
                for start in STARTS:
                    x = window(start, length)
                    self.assertEqual((steps(m, x)[0], parts(m, x)[0]), (2, 2), (m, x))

    def test_three_steps_at_all_other_lengths(self):
        for m in EVERY_M:
            others = [length for length in lengths(m) if length not in two_step_lengths(m)]
            self.assertGreater(len(others), 10)
            for length in others:
                for start in STARTS[:2]:
                    x = window(start, length)
                    self.assertEqual((steps(m, x)[0], parts(m, x)[0]), (3, 3), (m, x))

    def test_just_beside_two_steps_a_third_comes_in(self):
        for m in EVERY_M:
            near = smallest(m)
            for length in two_step_lengths(m):
                two = steps_of(m, window([0, 0], length))
                for beside in (plus(length, near), minus(length, near)):
                    if is_length(m, beside):
                        three = steps_of(m, window([0, 0], beside))
                        self.assertEqual(len(three), 3)
                        self.assertTrue(all(step in three for step in two), (m, beside))

    def test_the_largest_of_three_is_the_two_others_together(self):
        for m in EVERY_M:
            for x in every_window(m):
                found = steps_of(m, x)
                if len(found) == 3:
                    self.assertEqual(found[2], plus(found[0], found[1]), (m, x))


class AtTheEdges(unittest.TestCase):
    def test_length_of_one(self):
        for m in EVERY_M:
            for u in ([0, 0], [7, -4], [-FAR, 0], [FAR - 1, FAR]):
                x = window(u, [1, 0])
                between = plus(u, [-m, 1])
                self.assertEqual(steps(m, x), [2, 0, 1, 1, 1])
                self.assertEqual(parts(m, x), [2, 0, 1] + between + x[2:] + [1, 1] + u + between)

    def test_length_of_w(self):
        for m in EVERY_M:
            for u in ([0, 0], [7, -4], [-FAR, 0]):
                x = window(u, [0, 1])
                between = plus(u, [-1, 1])
                self.assertEqual(steps(m, x), [2, 1, 0, 1 - m, 1])
                self.assertEqual(parts(m, x), [2, 1, 0] + u + between + [1 - m, 1] + between + x[2:])

    def test_length_nearly_w_w(self):
        for m in EVERY_M:
            near = smallest(m)
            x = window([0, 0], minus([1, m], near))
            up = [1 + (m - 1) * m, 1 - m]
            largest = plus(up, [-m, 1])
            # Up by 1 and (m less 1) w from below w (nearly), down by w from w on, the third from the rest.
            end = minus([0, 1], near)
            found = parts_of(m, x)
            self.assertIn([[-m, 1], [0, 1] + x[2:]], found)
            self.assertIn([up, [0, 0] + end], found)
            self.assertIn([largest, end + [0, 1]], found)
            self.assertEqual(len(found), 3)

    def test_windows_of_numbers_that_are_not_whole(self):
        # From w less 1 on, below 1 and w: 2 long, as from 0 on, below 2.
        self.assertEqual(steps(1, [-1, 1, 1, 1]), steps(1, [0, 0, 2, 0]))
        self.assertEqual(parts(1, [-1, 1, 1, 1]),
                         [3, -1, 1, -1, 2, 1, 1, 1, 0, -1, 1, 0, 1, 0, 1, 0, 1, -1, 2])
        for m in (2, 3, 4):
            # From 0 on, below w and 1: 1 leads up from below w, w less m leads down from w on.
            self.assertEqual(parts(m, [0, 0, 1, 1]), [2, -m, 1, 0, 1, 1, 1, 1, 0, 0, 0, 0, 1])

    def test_windows_moved_by_a_partner(self):
        for m in EVERY_M:
            for length in some_lengths(m):
                x = window([-1, 0], length)
                for move in ([1, 0], [0, 1], [-3, 2], [37, -58], [-20000, 9000], [0, 20000]):
                    by = partner(m, move)
                    other = moved_window(x, by)
                    self.assertEqual(steps(m, other), steps(m, x), (m, x, move))
                    expected = [[step, moved_window(part, by)] for step, part in parts_of(m, x)]
                    self.assertEqual(parts_of(m, other), expected, (m, x, move))

    def test_windows_far_from_zero(self):
        for m in EVERY_M:
            for length in ([1, 0], [2, 0], [m * m + 1, 0]):
                near_zero = parts_of(m, window([0, 0], length))
                for a in (-FAR, 0, FAR - length[0]):
                    for b in (-FAR, 0, FAR):
                        x = window([a, b], length)
                        expected = [[step, moved_window(part, [a, b])] for step, part in near_zero]
                        self.assertEqual(parts_of(m, x), expected, (m, x))
                        self.assertEqual(steps_of(m, x), [step for step, part in near_zero], (m, x))

    def test_parts_may_be_told_by_numbers_beyond_what_is_handed_over(self):
        for m in EVERY_M:
            x = [0, FAR, 1, FAR]
            self.assertEqual(parts(m, x), [2, 0, 1, -m, FAR + 1, 1, FAR, 1, 1, 0, FAR, -m, FAR + 1])


class Refusals(unittest.TestCase):
    def refused(self, m, x):
        self.assertEqual(steps(m, x), [-22], (m, x))
        self.assertEqual(parts(m, x), [-22], (m, x))

    def taken(self, m, x):
        self.assertIn(steps(m, x)[0], (2, 3), (m, x))
        self.assertIn(parts(m, x)[0], (2, 3), (m, x))

    def test_m_is_one_to_four(self):
        for m in (0, 5, 6, 4294967295):
            self.refused(m, [0, 0, 1, 0])
            self.refused(m, [0, 0, 0, 0])
            self.refused(m, [])
        for m in EVERY_M:
            self.taken(m, [0, 0, 1, 0])

    def test_window_is_four_numbers(self):
        for m in EVERY_M:
            for x in ([], [0], [0, 0], [0, 0, 1], [0, 0, 1, 0, 0], [0, 0, 1, 0, 0, 0], [0, 0, 1, 0, 0, 0, 0, 0]):
                self.refused(m, x)

    def test_length_is_one_at_least_and_less_than_w_w(self):
        for m in EVERY_M:
            near = smallest(m)
            for start in ([0, 0], [20, -11]):
                for length in few_lengths(m) + [[m * m + 1, 0]]:
                    self.taken(m, window(start, length))
                for length in ([0, 0], [-1, 0], [-m, 1], [m, -1], [-1, -m], minus([1, 0], near)):
                    self.refused(m, window(start, length))
                for length in ([1, m], plus([1, m], near), [m * m + 2, 0], [100, 0], [0, 100]):
                    self.refused(m, window(start, length))

    def test_numbers_just_beyond(self):
        for m in EVERY_M:
            for x in ([FAR - 1, 0, FAR, 0], [-FAR, 0, 1 - FAR, 0], [0, FAR, 1, FAR], [0, -FAR, 1, -FAR],
                      [FAR - 1, FAR, FAR, FAR], [-FAR, -FAR, 1 - FAR, -FAR]):
                self.taken(m, x)
            for x in ([FAR, 0, FAR + 1, 0], [-FAR - 1, 0, -FAR, 0], [0, FAR + 1, 1, FAR + 1],
                      [0, -FAR - 1, 1, -FAR - 1], [0, FAR, 0, FAR + 1], [0, -FAR - 1, 0, -FAR],
                      [2147483646, 0, 2147483647, 0], [-2147483647, 0, -2147483646, 0]):
                self.refused(m, x)


if __name__ == "__main__":
    unittest.main()
