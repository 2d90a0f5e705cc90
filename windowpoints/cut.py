"""The points of a window: numbers a and b w whose partner lies in it.

w is the one above 0 whose square is m w and 1. A number is a pair (a, b), a window x is four
whole numbers: x[0] and x[1] w, from where it is, and x[2] and x[3] w, up to where.
"""

FARTHEST = 1000000
NOT_AS_TOLD = -22
NOT_A_POINT = -2
TOO_MANY_POINTS = -75
MOST_POINTS_AWAY = 400
MOST_COUNTED = 399
LONGEST_ROW = 60
LONGEST_STEP = (1, 1)


def is_below_zero(m, a, b):
    # Twice a and b w is a whole number and b times the root of m m and 4: their squares
    # settle which of the two is larger, without a root and so without rounding.
    whole = 2 * a + m * b
    if whole >= 0 and b >= 0:
        return False
    if whole <= 0 and b <= 0:
        return True
    if b > 0:
        return whole * whole > (m * m + 4) * b * b
    return whole * whole < (m * m + 4) * b * b


def is_below(m, left, right):
    return is_below_zero(m, left[0] - right[0], left[1] - right[1])


def moved(number, step):
    return (number[0] + step[0], number[1] + step[1])


def moved_back(number, step):
    return (number[0] - step[0], number[1] - step[1])


def partner_of(m, number):
    return (number[0] + m * number[1], -number[1])


def is_as_told(told, how_many):
    return len(told) == how_many and all([-FARTHEST <= part <= FARTHEST for part in told])


def is_window(m, x):
    if not is_as_told(x, 4):
        return False
    length = (x[2] - x[0], x[3] - x[1])
    square_of_w = (1, m)
    return not is_below(m, length, (1, 0)) and is_below(m, length, square_of_w)


def is_right_window(m, x):
    return 1 <= m <= 4 and is_window(m, x)


def are_right(m, x, number):
    return is_right_window(m, x) and is_as_told(number, 2)


def is_point(m, x, number):
    partner = partner_of(m, number)
    return not is_below(m, partner, (x[0], x[1])) and is_below(m, partner, (x[2], x[3]))


def steps_below_longest(m):
    # A window that is shorter than w w has no other steps than these, and w and 1: the
    # least is w less m; then come 1 less j times that one, then w less k. All are rising.
    up_to_one = [(1 + j * m, -j) for j in range(m - 1, -1, -1)]
    up_to_w = [(-k, 1) for k in range(m - 1, -1, -1)]
    return [(-m, 1)] + up_to_one + up_to_w


def point_after(m, x, number):
    for step in steps_below_longest(m):
        ahead = moved(number, step)
        if is_point(m, x, ahead):
            return ahead
    # A length of 1 at least: where no shorter step stays in the window, w and 1 does.
    return moved(number, LONGEST_STEP)


def point_before(m, x, number):
    for step in steps_below_longest(m):
        behind = moved_back(number, step)
        if is_point(m, x, behind):
            return behind
    # No step is longer than w and 1, so one that leads here and is none of those is it.
    return moved_back(number, LONGEST_STEP)


def own_point(m, x):
    # w is below m and 1, so the window begins within this of 0; halving what is left finds
    # the whole number without a root.
    farthest = (m + 2) * FARTHEST
    low = -farthest
    high = farthest
    while low < high:
        middle = (low + high) // 2
        if is_below(m, (middle, 0), (x[0], x[1])):
            low = middle + 1
        else:
            high = middle
    return (low, 0)


def first_ahead(m, x, start, y):
    here = start
    for away in range(MOST_POINTS_AWAY + 1):
        if not is_below(m, here, y):
            return here
        here = point_after(m, x, here)
    return None


def first_behind(m, x, start, y):
    here = start
    for away in range(MOST_POINTS_AWAY + 1):
        behind = point_before(m, x, here)
        if is_below(m, behind, y):
            return here
        here = behind
    return None


def first_from(m, x, y):
    """The least point that isn't below y, or None if it is too far from the window's own."""
    own = own_point(m, x)
    if is_below(m, own, y):
        return first_ahead(m, x, own, y)
    return first_behind(m, x, own, y)


def points_from(m, x, start, how_many):
    points = [start]
    while len(points) < how_many:
        points.append(point_after(m, x, points[-1]))
    return points


def how_many_below(m, x, start, z):
    """How many points from start on are below z, counted no farther than to one too many."""
    here = start
    how_many = 0
    while how_many <= MOST_COUNTED and is_below(m, here, z):
        how_many += 1
        here = point_after(m, x, here)
    return how_many


def where_it_stays(m, x, step):
    """From where, and up to where, partners lie from which the step doesn't lead out of the window."""
    start = (x[0], x[1])
    end = (x[2], x[3])
    partner = partner_of(m, step)
    if is_below_zero(m, partner[0], partner[1]):
        return (moved_back(start, partner), end)
    return (start, moved_back(end, partner))


def parted(m, x):
    """Each step with its part of the window, (step, from where, up to where), the least step first."""
    low = (x[0], x[1])
    high = (x[2], x[3])
    found = []
    for step in steps_below_longest(m) + [LONGEST_STEP]:
        # From low on, below high: there no shorter step stays in the window, so this one leads
        # from wherever it does. That lies at one end or the other, and what is left is one part.
        fits = where_it_stays(m, x, step)
        start = fits[0] if is_below(m, low, fits[0]) else low
        end = fits[1] if is_below(m, fits[1], high) else high
        if is_below(m, start, end):
            found.append((step, start, end))
            if start == low:
                low = end
            else:
                high = start
    return found


def answer_of(leading, numbers):
    answer = [leading]
    for number in numbers:
        answer.extend([number[0], number[1]])
    return answer


def point(m, x, z):
    if not are_right(m, x, z):
        return [NOT_AS_TOLD]
    return [1 if is_point(m, x, z) else 0]


def next_of(m, x, z):
    if not are_right(m, x, z):
        return [NOT_AS_TOLD]
    if not is_point(m, x, z):
        return [NOT_A_POINT]
    return answer_of(0, [point_after(m, x, z)])


def back(m, x, z):
    if not are_right(m, x, z):
        return [NOT_AS_TOLD]
    if not is_point(m, x, z):
        return [NOT_A_POINT]
    return answer_of(0, [point_before(m, x, z)])


def first(m, x, y):
    if not are_right(m, x, y):
        return [NOT_AS_TOLD]
    found = first_from(m, x, y)
    if found is None:
        return [TOO_MANY_POINTS]
    return answer_of(0, [found])


def row(m, k, x, z):
    if not are_right(m, x, z) or not 1 <= k <= LONGEST_ROW:
        return [NOT_AS_TOLD]
    if not is_point(m, x, z):
        return [NOT_A_POINT]
    return answer_of(k, points_from(m, x, z, k))


def count(m, x, y, z):
    if not are_right(m, x, y) or not is_as_told(z, 2):
        return [NOT_AS_TOLD]
    found = first_from(m, x, y)
    if found is None:
        return [TOO_MANY_POINTS]
    how_many = how_many_below(m, x, found, z)
    if how_many > MOST_COUNTED:
        return [TOO_MANY_POINTS]
    return [how_many]


def steps(m, x):
    if not is_right_window(m, x):
        return [NOT_AS_TOLD]
    found = parted(m, x)
    return answer_of(len(found), [part[0] for part in found])


def parts(m, x):
    if not is_right_window(m, x):
        return [NOT_AS_TOLD]
    found = parted(m, x)
    numbers = []
    for part in found:
        numbers.extend([part[0], part[1], part[2]])
    return answer_of(len(found), numbers)
