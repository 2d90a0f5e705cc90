"""What the document says, worked out another way: by places on the line, with many digits.

A number that isn't 0 but made of parts up to some millions lies farther from 0 than 1 by some
tens of millions, so places that are told to 60 digits never lead astray.
"""

from math import isqrt

EVERY_M = (1, 2, 3, 4)
UNIT = 10 ** 60
ROOTS = {m: isqrt((m * m + 4) * UNIT * UNIT) for m in EVERY_M}


def place(m, number):
    """Twice where the number lies, in UNITs."""
    return (2 * number[0] + m * number[1]) * UNIT + number[1] * ROOTS[m]


def partner_place(m, number):
    """Twice where the number's partner lies: the root's sign is the other one."""
    return (2 * number[0] + m * number[1]) * UNIT - number[1] * ROOTS[m]


def plus(left, right):
    return [left[0] + right[0], left[1] + right[1]]


def minus(left, right):
    return [left[0] - right[0], left[1] - right[1]]


def times(m, left, right):
    both = left[1] * right[1]
    return [left[0] * right[0] + both, left[0] * right[1] + left[1] * right[0] + m * both]


def partner(m, number):
    """a and b w with m less w in w's place."""
    return [number[0] + number[1] * m, -number[1]]


def window(start, length):
    return list(start) + plus(start, length)


def moved_window(x, number):
    return plus(x[:2], number) + plus(x[2:], number)


def smallest(m):
    """A number above 0, nearly 0: 1 by w, as often by itself as can well be handed over."""
    number = [1, 0]
    smaller = [-m, 1]
    while max(abs(part) for part in smaller) < 900000:
        number = smaller
        smaller = times(m, smaller, [-m, 1])
    return number


def is_length(m, length):
    return place(m, [1, 0]) <= place(m, length) < place(m, times(m, [0, 1], [0, 1]))


def lies_in(m, x, number):
    return place(m, x[:2]) <= partner_place(m, number) < place(m, x[2:])


def points_between(m, x, low, high):
    """All points of the window from the whole number low on, below high: rising."""
    # A number less its partner is b times the root: both have bounds, so b has. With b, the
    # partner's bounds tell a's.
    least_b = (2 * low * UNIT - place(m, x[2:])) // (2 * ROOTS[m]) - 1
    most_b = (2 * high * UNIT - place(m, x[:2])) // (2 * ROOTS[m]) + 1
    found = []
    for b in range(least_b, most_b + 1):
        less = partner_place(m, [0, b])
        least_a = (place(m, x[:2]) - less) // (2 * UNIT) - 1
        most_a = (place(m, x[2:]) - less) // (2 * UNIT) + 1
        for a in range(least_a, most_a + 1):
            if low * 2 * UNIT <= place(m, [a, b]) < high * 2 * UNIT and lies_in(m, x, [a, b]):
                found.append([a, b])
    return sorted(found, key=lambda number: place(m, number))


def own_point(m, x):
    """The least whole number that isn't below where the window begins."""
    return [-(-place(m, x[:2]) // (2 * UNIT)), 0]


def points_around_own(m, x, how_many):
    """So many points behind the window's own, then it, then as many ahead of it."""
    own = own_point(m, x)
    reach = m + 3
    found = [own]
    middle = 0
    while min(middle, len(found) - 1 - middle) < how_many:
        reach += reach // 3
        found = points_between(m, x, own[0] - reach, own[0] + reach)
        middle = found.index(own)
    return found[middle - how_many:middle + how_many + 1]


def lengths(m):
    """Lengths that a window may have: the least, nearly w w, and those at which steps change."""
    near = smallest(m)
    plain = [[a, b] for a in range(-18, 19) for b in range(-4, 5)]
    beside = []
    for length in ([1, 0], [1, m], [0, 1]):
        beside += [plus(length, near), minus(length, near)]
    for k in range(1, m + 1):
        # Where w less k, or 1 less k times w's part behind the whole, become steps.
        for length in ([k - m, 1], [1, k]):
            beside += [plus(length, near), minus(length, near)]
    return [length for length in plain + beside if is_length(m, length)]


def few_lengths(m):
    """A length of 1 and just above, w, and one nearly w w."""
    near = smallest(m)
    return [[1, 0], plus([1, 0], near), [0, 1], minus([1, m], near)]


def some_lengths(m):
    return few_lengths(m) + lengths(m)[::20]
