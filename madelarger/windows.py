"""Windows, whether they keep their points, and points made larger.

A number a and b w is two whole numbers, a, then b; w w is m w and 1.
"""

WRONG_INPUT = -22
NOT_KEPT = -33
NO_POINT = -2

LARGEST_M = 4
LARGEST_PART = 1000000


def keeps(m, x):
    """Answer [1] if the window x keeps its points, else [0], or a refusal."""
    if not is_window(m, x):
        return [WRONG_INPUT]
    if keeps_points(m, x):
        return [1]
    return [0]


def large(m, x, z):
    """Answer 0, then the point z made larger, or a refusal."""
    refused = point_refusal(m, x, z)
    if refused != 0:
        return [refused]
    return [0] + made_larger(m, z)


def point_refusal(m, x, z):
    """The refusal that is told first for z as a point of the window x, 0 if none is due."""
    if not is_window(m, x) or not is_told(z, 2):
        return WRONG_INPUT
    if not keeps_points(m, x):
        return NOT_KEPT
    if not is_point(m, x, z):
        return NO_POINT
    return 0


def is_window(m, x):
    """Whether m is as told and x, with this m, is a window."""
    if m < 1 or m > LARGEST_M or not is_told(x, 4):
        return False
    length = [x[2] - x[0], x[3] - x[1]]
    return not is_below(m, length, [1, 0]) and is_below(m, length, made_larger(m, [1, 0]))


def is_told(parts, count):
    """Whether parts are just so many whole numbers, none beyond what may be handed over."""
    return len(parts) == count and all([abs(part) <= LARGEST_PART for part in parts])


def keeps_points(m, x):
    """Whether the smaller window lies within the window x."""
    u = x[:2]
    v = x[2:]
    return not is_below(m, made_smaller(m, u), u) and not is_below(m, v, made_smaller(m, v))


def is_point(m, x, z):
    """Whether z's partner lies in the window x."""
    mirrored = partner(m, z)
    return not is_below(m, mirrored, x[:2]) and is_below(m, mirrored, x[2:])


def partner(m, number):
    """The number with m less w in w's place."""
    return [number[0] + m * number[1], -number[1]]


def made_larger(m, number):
    """The number times w w."""
    a = number[0]
    b = number[1]
    return [a + m * b, m * a + (m * m + 1) * b]


def made_smaller(m, number):
    """The number divided by w w."""
    # w by its partner is -1, so w w's partner, m m and 1 less m w, undoes w w without a division.
    a = number[0]
    b = number[1]
    return [(m * m + 1) * a - m * b, b - m * a]


def is_below(m, number, other):
    """Whether number lies below other on the line."""
    # Twice the difference is p and q times the root of m m + 4. Squares that keep their
    # number's sign lie in the order of the numbers, so the root itself is never needed.
    q = number[1] - other[1]
    p = 2 * (number[0] - other[0]) + m * q
    return p * abs(p) + (m * m + 4) * q * abs(q) < 0
