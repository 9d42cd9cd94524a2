"""What the tests share: a second way to the answers, by decimals of many places, and inputs."""

from decimal import Decimal, localcontext

MS = (1, 2, 3, 4)
TOP = 1000000
FARTHEST = 2147483647
WRONG_MS = (0, 5, 4294967295)

# Two different numbers from the inputs here lie at least some ten-millionths apart, and
# decimals of 60 places err by far less than this, so what is nearer than this is the same.
SAME = Decimal("1e-30")


def root(m):
    """w, to 60 places."""
    with localcontext() as context:
        context.prec = 60
        return (m + Decimal(m * m + 4).sqrt()) / 2


ROOTS = {m: root(m) for m in MS}


def value(m, a, b):
    with localcontext() as context:
        context.prec = 60
        return a + b * ROOTS[m]


def partner_value(m, a, b):
    with localcontext() as context:
        context.prec = 60
        return a + b * (m - ROOTS[m])


def below(s, t):
    with localcontext() as context:
        context.prec = 60
        return t - s > SAME


def square(m):
    with localcontext() as context:
        context.prec = 60
        return ROOTS[m] * ROOTS[m]


SQUARES = {m: square(m) for m in MS}


def expected_keeps(m, x):
    """What keeps answers, for an m and four whole numbers as told."""
    u = value(m, x[0], x[1])
    v = value(m, x[2], x[3])
    with localcontext() as context:
        context.prec = 60
        length = v - u
        small_u = u / SQUARES[m]
        small_v = v / SQUARES[m]
    if below(length, 1) or not below(length, SQUARES[m]):
        return [-22]
    return [0] if below(small_u, u) or below(v, small_v) else [1]


def in_window(m, x, z):
    mirrored = partner_value(m, *z)
    return not below(mirrored, value(m, x[0], x[1])) and below(mirrored, value(m, x[2], x[3]))


def times_square(m, z):
    """z times w w, by two steps of w: a and b w becomes b and (a and m b) w."""
    a, b = z
    a, b = b, a + m * b
    return [b, a + m * b]


def over_square(m, z):
    """The number that times_square makes z of, by its two steps undone."""
    a, b = z
    a, b = b - m * a, a
    return [b - m * a, a]


def partner_of(m, z):
    return [z[0] + m * z[1], -z[1]]


def expected_large(m, x, z):
    """What large answers, for an m, a window's and a number's whole numbers as told."""
    kept = expected_keeps(m, x)
    if kept != [1]:
        return [-33] if kept == [0] else kept
    if not in_window(m, x, z):
        return [-2]
    return [0] + times_square(m, z)


def tiny(m, most=TOP):
    """The number above 0 and nearest to it among the powers of w's partner with parts up to most.

    w's partner to the n-th is g and less h w, with h, g two numbers one behind the other
    in the row 0, 1, m, m m and 1, .., where each is m times the one ahead and the one ahead of that.
    """
    h, g = 0, 1
    found = [g, -h]
    while True:
        h, g = g, m * g + h
        h, g = g, m * g + h
        if g > most:
            return found
        found = [g, -h]


def plus(s, t):
    return [s[0] + t[0], s[1] + t[1]]


def minus(s, t):
    return [s[0] - t[0], s[1] - t[1]]


def small_windows(m, most):
    """All windows whose whole numbers lie from -most to most, with what keeps answers."""
    parts = range(-most, most + 1)
    found = []
    for x in [[a, b, c, d] for a in parts for b in parts for c in parts for d in parts]:
        kept = expected_keeps(m, x)
        if kept != [-22]:
            found.append((x, kept))
    return found


class Untouched(list):
    """A list that fails the moment something is changed in it, be it for a while alone."""

    def refuse(self, *args, **kwargs):
        raise RuntimeError("what was handed in was changed")

    append = extend = insert = remove = pop = clear = sort = reverse = refuse
    __setitem__ = __delitem__ = __iadd__ = __imul__ = refuse
