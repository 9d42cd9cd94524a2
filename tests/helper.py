"""What the tests share: a second way to the answers, by decimals of many places, and inputs."""

from decimal import Decimal, getcontext

getcontext().prec = 60

MS = (1, 2, 3, 4)
TOP = 1000000
FARTHEST = 2147483647
WRONG_MS = (0, 5, 4294967295)

# Two different numbers from the inputs here lie at least some billionths apart, and
# decimals of 60 places err by far less than this, so what is nearer than this is the same.
SAME = Decimal("1e-30")

# w, to 60 places, and its square.
ROOTS = {m: (m + Decimal(m * m + 4).sqrt()) / 2 for m in MS}
SQUARES = {m: ROOTS[m] * ROOTS[m] for m in MS}


def value(m, a, b):
    return a + b * ROOTS[m]


def partner_value(m, a, b):
    return a + b * (m - ROOTS[m])


def below(s, t):
    return t - s > SAME


def expected_keeps(m, x):
    """What keeps answers, for an m and four whole numbers as told."""
    u = value(m, x[0], x[1])
    v = value(m, x[2], x[3])
    if below(v - u, 1) or not below(v - u, SQUARES[m]):
        return [-22]
    return [0] if below(u / SQUARES[m], u) or below(v, v / SQUARES[m]) else [1]


def in_window(m, x, z):
    mirrored = partner_value(m, *z)
    return not below(mirrored, value(m, x[0], x[1])) and below(mirrored, value(m, x[2], x[3]))


def times_square(m, z):
    """z times w w, by two steps of w: a and b w becomes b and (a and m b) w."""
    a, b = z
    a, b = b, a + m * b
    return [b, a + m * b]


def over_square(m, z):
    """The number that times_square makes z of, by its two steps undone."""
    a, b = z
    a, b = b - m * a, a
    return [b - m * a, a]


def smaller_window(m, x):
    return over_square(m, x[:2]) + over_square(m, x[2:])


def partner_of(m, z):
    return [z[0] + m * z[1], -z[1]]


def expected_large(m, x, z):
    """What large answers, for an m, a window's and a number's whole numbers as told."""
    kept = expected_keeps(m, x)
    if kept != [1]:
        return [-33] if kept == [0] else kept
    if not in_window(m, x, z):
        return [-2]
    return [0] + times_square(m, z)


def points_between(m, x, low, high):
    """All points of the window x from the number low to the number high, in order, each found by trying."""
    u = value(m, *x[:2])
    v = value(m, *x[2:])
    least = value(m, *low)
    most = value(m, *high)
    # A number less its partner is its b times w less w's partner.
    apart = 2 * ROOTS[m] - m
    found = []
    for b in range(int((least - v) / apart) - 2, int((most - u) / apart) + 3):
        shift = b * (m - ROOTS[m])
        for a in range(int(u - shift) - 2, int(v - shift) + 3):
            place = value(m, a, b)
            if in_window(m, x, [a, b]) and not below(place, least) and not below(most, place):
                found.append([a, b])
    return sorted(found, key=lambda z: value(m, *z))


def expected_step(m, x, z):
    """The step that leads from the point z; none is longer than 2 and 2 w."""
    near = points_between(m, x, z, plus(z, [2, 2]))
    return minus(near[1], near[0])


def expected_row(m, x, z):
    """The steps of the piece of the point z."""
    following = plus(z, expected_step(m, x, z))
    points = points_between(m, x, times_square(m, z), times_square(m, following))
    return [minus(points[k + 1], points[k]) for k in range(len(points) - 1)]


def told(row):
    """A row of steps as it is answered."""
    return [len(row)] + [number for step in row for number in step]


def read_row(numbers):
    """The steps of a row as it is answered; fails if there are too few or too many numbers."""
    count = numbers[0]
    if len(numbers) != 1 + 2 * count:
        raise ValueError(f"{count} steps, {len(numbers)} numbers")
    return [numbers[k:k + 2] for k in range(1, len(numbers), 2)]


def read_pieces(answer):
    """The pieces as they are answered, each its step and its row; fails like read_row."""
    found = []
    place = 1
    while place < len(answer):
        end = place + 3 + 2 * answer[place + 2]
        found.append((answer[place:place + 2], read_row(answer[place + 2:end])))
        place = end
    if answer[0] != len(found):
        raise ValueError(f"{answer[0]} pieces told, {len(found)} found")
    return found


def expected_piece(m, x, z):
    """What piece answers, for an m, a window's and a number's whole numbers as told."""
    made = expected_large(m, x, z)
    return told(expected_row(m, x, z)) if made[0] == 0 else made


def expected_window(m, x):
    """What window answers, for an m and a window's whole numbers as told, be its points kept or not."""
    return [-22] if expected_keeps(m, x) == [-22] else [0] + smaller_window(m, x)


def expected_parent(m, x, z):
    """What parent answers: what is made larger stays in order, so the last point not beyond z over w w."""
    made = expected_large(m, x, z)
    if made[0] != 0:
        return made
    most = over_square(m, z)
    return [0] + points_between(m, x, minus(most, [2, 2]), most)[-1]


def expected_depth(m, x, z):
    """What depth answers, for an m, a window's and a number's whole numbers as told."""
    made = expected_large(m, x, z)
    if made[0] != 0:
        return made
    smaller = [over_square(m, z)]
    while len(smaller) < 20:
        smaller.append(over_square(m, smaller[-1]))
    inside = [in_window(m, x, number) for number in smaller] + [False]
    return [inside.index(False)]


def part_starts(m, x):
    """Where, from u on, the step that leads from the points whose partners lie there becomes another one."""
    length = minus(x[2:], x[:2])
    places = [x[:2]]
    for step in points_between(m, minus([0, 0], length) + length, [0, 0], [2, 2]):
        for place in (x[:2], x[2:]):
            places.append(minus(place, partner_of(m, step)))
    places = [place for place in places if in_window(m, x, partner_of(m, place))]
    starts = []
    last = None
    for place in sorted(places, key=lambda number: value(m, *number)):
        step = expected_step(m, x, partner_of(m, place))
        if step != last:
            starts.append(place)
        last = step
    return starts


def witnesses(m, x):
    """Points of the window x so many that each piece is the piece of one of them.

    The piece of a point becomes another one only where the partner of some point on it comes to
    lie just where a part starts. Such a place is a number too, so there is a point for it.
    """
    length = minus(x[2:], x[:2])
    smaller = smaller_window(m, x)
    starts = part_starts(m, x)
    steps = [expected_step(m, x, partner_of(m, start)) for start in starts]
    longest = max(steps, key=lambda step: value(m, *step))
    places = [over_square(m, start) for start in starts]
    for gone in points_between(m, minus([0, 0], length) + length, [0, 0], times_square(m, longest)):
        places.extend([minus(start, partner_of(m, gone)) for start in starts])
    points = [partner_of(m, place) for place in places]
    return [over_square(m, point) for point in points if in_window(m, smaller, point)]


def expected_pieces(m, x):
    """What pieces answers, for an m and a window's whole numbers as told."""
    kept = expected_keeps(m, x)
    if kept != [1]:
        return [-33] if kept == [0] else kept
    found = []
    for z in witnesses(m, x):
        row = [expected_step(m, x, z)] + expected_row(m, x, z)
        if row not in found:
            found.append(row)
    answer = [len(found)]
    for row in sorted(found, key=lambda row: [value(m, *step) for step in row]):
        answer.extend(row[0] + told(row[1:]))
    return answer


def tiny(m, most=TOP):
    """The number above 0 and nearest to it among the powers of w's partner with parts up to most.

    w's partner to the n-th is g and less h w, with h, g two numbers one behind the other
    in the row 0, 1, m, m m and 1, .., where each is m times the one ahead and the one ahead of that.
    """
    h, g = 0, 1
    found = [g, -h]
    while True:
        h, g = g, m * g + h
        h, g = g, m * g + h
        if g > most:
            return found
        found = [g, -h]


def plus(s, t):
    return [s[0] + t[0], s[1] + t[1]]


def minus(s, t):
    return [s[0] - t[0], s[1] - t[1]]


def small_windows(m, most):
    """All windows whose whole numbers lie from -most to most, with what keeps answers."""
    parts = range(-most, most + 1)
    found = []
    for x in [[a, b, c, d] for a in parts for b in parts for c in parts for d in parts]:
        kept = expected_keeps(m, x)
        if kept != [-22]:
            found.append((x, kept))
    return found


def lengths(m):
    """Lengths where the steps of a window become others, from 1 to w w, and such just beside them."""
    near = tiny(m, TOP // 20)
    exact = [[1, 0], [2, 0]] + [[1 - k, 1] for k in range(m + 1)] + [[1, k] for k in range(m + 1)]
    exact = exact + [[0, k] for k in range(1, m + 1)]
    return [number for place in exact for number in (minus(place, near), place, plus(place, near))]


def kept_windows(m):
    """Windows that keep their points, of all these lengths: from 0 on, up to 0, and about 0."""
    near = tiny(m, TOP // 20)
    starts = [[0, 0], [-1, 0], [m, -1], [0, -1], minus([0, 0], near), minus(near, [1, 0])]
    found = []
    for length in lengths(m):
        for u in starts + [minus([0, 0], length), minus(near, length)]:
            x = u + plus(u, length)
            if expected_keeps(m, x) == [1] and x not in found:
                found.append(x)
    return found


def far_windows(m):
    """Windows that keep their points, with whole numbers near a million."""
    found = []
    for a in (TOP, TOP - 1, 987654):
        for c in (TOP, TOP - 3, 976543):
            u = [-a, int(a / ROOTS[m])]
            for v in ([c, -int(c / ROOTS[m])], [-c, int(c / ROOTS[m]) + 1], [1, 0]):
                if expected_keeps(m, u + v) == [1]:
                    found.append(u + v)
        v = [a, -int(a / ROOTS[m])]
        found.extend([u + v for u in ([0, 0], [-1, 0], [0, -1]) if expected_keeps(m, u + v) == [1]])
    return found


def point_near_a_million(m, sign):
    """A number with the partner less than 1 from 0 and with a million, or less so many, times w."""
    return [sign * int(TOP / ROOTS[m]), sign * TOP]


def points_near_a_million(m, x, sign):
    """The points of the window x about such a number, none beyond what may be handed in."""
    near = point_near_a_million(m, sign)
    points = points_between(m, x, minus(near, [3, sign]), plus(near, [3, -sign]))
    return [z for z in points if abs(z[1]) <= TOP]


def points_at_ends(m, ends):
    """Of each end of ends, the numbers whose partner lies just at it, just below it and just beyond it.

    Such numbers as may not be handed in are left out.
    """
    near = tiny(m, TOP // 100)
    found = []
    for end in (ends[:2], ends[2:]):
        found.extend([partner_of(m, place) for place in (minus(end, near), end, plus(end, near))])
    return [z for z in found if max(map(abs, z)) <= TOP]


class Untouched(list):
    """A list that fails the moment something is changed in it, be it for a while alone."""

    def refuse(self, *args, **kwargs):
        raise RuntimeError("what was handed in was changed")

    append = extend = insert = remove = pop = clear = sort = reverse = refuse
    __setitem__ = __delitem__ = __iadd__ = __imul__ = refuse
