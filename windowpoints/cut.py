"""The points of a window: numbers a and b w whose partner lies in it.

w is the one above 0 whose square is m w and 1. A number is a pair (a, b), a window x is four
whole numbers: x[0] and x[1] w, from where it is, and x[2] and x[3] w, up to where.
"""

FARTHEST = 1000000
NOT_AS_TOLD = -22
NOT_A_POINT = -2


def is_below_zero(m, a, b):
    # Twice a and b w is a whole number and b times the root of m m and 4: their squares
    # settle which of the two is larger, without a root and so without rounding.
    whole = 2 * a + m * b
    if whole >= 0 and b >= 0:
        return False
    if whole <= 0 and b <= 0:
        return True
    if b > 0:
        return whole * whole > (m * m + 4) * b * b
    return whole * whole < (m * m + 4) * b * b


def is_below(m, left, right):
    return is_below_zero(m, left[0] - right[0], left[1] - right[1])


def moved(number, step):
    return (number[0] + step[0], number[1] + step[1])


def partner_of(m, number):
    return (number[0] + m * number[1], -number[1])


def is_as_told(told, how_many):
    return len(told) == how_many and all([-FARTHEST <= part <= FARTHEST for part in told])


def is_window(m, x):
    if not is_as_told(x, 4):
        return False
    length = (x[2] - x[0], x[3] - x[1])
    square_of_w = (1, m)
    return not is_below(m, length, (1, 0)) and is_below(m, length, square_of_w)


def are_right(m, x, z):
    return 1 <= m <= 4 and is_window(m, x) and is_as_told(z, 2)


def is_point(m, x, number):
    partner = partner_of(m, number)
    return not is_below(m, partner, (x[0], x[1])) and is_below(m, partner, (x[2], x[3]))


def steps_below_longest(m):
    # A window that is shorter than w w has no other steps than these, and w and 1: the
    # least is w less m; then come 1 less j times that one, then w less k. All are rising.
    up_to_one = [(1 + j * m, -j) for j in range(m - 1, -1, -1)]
    up_to_w = [(-k, 1) for k in range(m - 1, -1, -1)]
    return [(-m, 1)] + up_to_one + up_to_w


def point_after(m, x, number):
    for step in steps_below_longest(m):
        ahead = moved(number, step)
        if is_point(m, x, ahead):
            return ahead
    # A length of 1 at least: where no shorter step stays in the window, w and 1 does.
    return moved(number, (1, 1))


def point(m, x, z):
    if not are_right(m, x, z):
        return [NOT_AS_TOLD]
    return [1 if is_point(m, x, z) else 0]


def next_of(m, x, z):
    if not are_right(m, x, z):
        return [NOT_AS_TOLD]
    if not is_point(m, x, z):
        return [NOT_A_POINT]
    ahead = point_after(m, x, z)
    return [0, ahead[0], ahead[1]]
