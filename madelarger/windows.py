"""Windows, whether they keep their points, points made larger, the pieces between these, and the points' parents.

A number a and b w is two whole numbers, a, then b; w w is m w and 1.
"""

WRONG_INPUT = -22
NOT_KEPT = -33
NO_POINT = -2

LARGEST_M = 4
LARGEST_PART = 1000000
LARGEST_DEPTH = 20


def keeps(m, x):
    """Answer [1] if the window x keeps its points, else [0], or a refusal."""
    if not is_window(m, x):
        return [WRONG_INPUT]
    if keeps_points(m, x):
        return [1]
    return [0]


def large(m, x, z):
    """Answer 0, then the point z made larger, or a refusal."""
    refused = point_refusal(m, x, z)
    if refused != 0:
        return [refused]
    return [0] + made_larger(m, z)


def piece(m, x, z):
    """Answer how many steps the piece of the point z has, then these, or a refusal."""
    refused = point_refusal(m, x, z)
    if refused != 0:
        return [refused]
    parts = window_parts(m, x)
    point = made_larger(m, z)
    goal = made_larger(m, plus(z, step_from(m, parts, z)))
    row = []
    while point != goal:
        step = step_from(m, parts, point)
        row.append(step)
        point = plus(point, step)
    return told_row(row)


def pieces(m, x):
    """Answer how many pieces there are, then of each its step, how many steps it has and these, or a refusal."""
    if not is_window(m, x):
        return [WRONG_INPUT]
    if not keeps_points(m, x):
        return [NOT_KEPT]
    parts = window_parts(m, x)
    count = 0
    told = []
    for part in parts:
        for row in part_rows(m, parts, part):
            count = count + 1
            told.extend(part.step + told_row(row))
    return [count] + told


def parent(m, x, z):
    """Answer 0, then the parent of the point z, or a refusal."""
    refused = point_refusal(m, x, z)
    if refused != 0:
        return [refused]
    parts = window_parts(m, x)
    point = z
    while not comes_larger(m, x, point):
        point = point_before(m, parts, point)
    return [0] + made_smaller(m, point)


def depth(m, x, z):
    """Answer how deep the point z is, or a refusal."""
    refused = point_refusal(m, x, z)
    if refused != 0:
        return [refused]
    return [how_deep(m, x, z)]


def window(m, x):
    """Answer 0, then the smaller window of the window x, or a refusal."""
    if not is_window(m, x):
        return [WRONG_INPUT]
    return [0] + smaller_window(m, x)


def told_row(row):
    """How many steps the row has, then the two whole numbers of each."""
    told = [len(row)]
    for step in row:
        told.extend(step)
    return told


def point_refusal(m, x, z):
    """The refusal that is told first for z as a point of the window x, 0 if none is due."""
    if not is_window(m, x) or not is_told(z, 2):
        return WRONG_INPUT
    if not keeps_points(m, x):
        return NOT_KEPT
    if not is_point(m, x, z):
        return NO_POINT
    return 0


def is_window(m, x):
    """Whether m is as told and x, with this m, is a window."""
    if m < 1 or m > LARGEST_M or not is_told(x, 4):
        return False
    return lies_within(m, minus(x[2:], x[:2]), [1, 0], made_larger(m, [1, 0]))


def is_told(parts, count):
    """Whether parts are just so many whole numbers, none beyond what may be handed over."""
    return len(parts) == count and all([abs(part) <= LARGEST_PART for part in parts])


def keeps_points(m, x):
    """Whether the smaller window lies within the window x."""
    smaller = smaller_window(m, x)
    return not is_below(m, smaller[:2], x[:2]) and not is_below(m, x[2:], smaller[2:])


def smaller_window(m, x):
    """The ends of the window x, each made smaller."""
    return made_smaller(m, x[:2]) + made_smaller(m, x[2:])


def is_point(m, x, z):
    """Whether z's partner lies in the window x."""
    return lies_within(m, partner(m, z), x[:2], x[2:])


def comes_larger(m, x, point):
    """Whether the point is some point of the window x made larger."""
    return is_point(m, x, made_smaller(m, point))


def how_deep(m, x, point):
    """How often the point is, one after another, some point made larger."""
    count = 0
    # 0 is 0 made larger, however often, so without a bound this would not end.
    while count < LARGEST_DEPTH and comes_larger(m, x, point):
        point = made_smaller(m, point)
        count = count + 1
    return count


# A step, and where the partners of the points lie from which it leads: from low on, below high.
class Part:
    def __init__(self, step, low, high):
        self.step = step
        self.low = low
        self.high = high


def window_parts(m, x):
    """The parts of the window x, one for each step that there is, the least step first."""
    u = x[:2]
    v = x[2:]
    steps = rising_and_falling(m, minus(v, u))
    rising = Part(steps[0], u, minus(v, partner(m, steps[0])))
    falling = Part(steps[1], minus(u, partner(m, steps[1])), v)
    parts = [rising, falling] if is_below(m, rising.step, falling.step) else [falling, rising]
    # From where neither step stays in the window both together do, and they are longer than each.
    if is_below(m, rising.high, falling.low):
        parts.append(Part(plus(rising.step, falling.step), rising.high, falling.low))
    return parts


def rising_and_falling(m, length):
    """The least step whose partner is above 0 and the least whose partner is below, in a window of this length."""
    # Every number is some times the one and some times the other, also after one takes up the other.
    # At the end either partner is shorter than the window, but they lie apart by its length at least:
    # taking one of them less than no times leads out of the window, so no lesser step was passed over.
    # At the start the partners are w w, which is longer than any window, and less w.
    rising = made_smaller(m, [1, 0])
    falling = [-m, 1]
    while not is_below(m, partner(m, rising), length) or not is_below(m, minus([0, 0], length), partner(m, falling)):
        both = plus(rising, falling)
        if is_below(m, [0, 0], partner(m, both)):
            rising = both
        else:
            falling = both
    return [rising, falling]


def step_from(m, parts, point):
    """The step that leads from the point to the next one."""
    return [part.step for part in parts if leads_from(m, part, point)][0]


def point_before(m, parts, point):
    """The point from which a step leads to this one."""
    return [minus(point, part.step) for part in parts if leads_from(m, part, minus(point, part.step))][0]


def leads_from(m, part, number):
    """Whether the number is a point from which the part's step leads."""
    return lies_within(m, partner(m, number), part.low, part.high)


# A row of steps, how far they lead together, and where the partners of the points lie to which they lead.
class Way:
    def __init__(self, row, gone, low, high):
        self.row = row
        self.gone = gone
        self.low = low
        self.high = high


def part_rows(m, parts, part):
    """All rows of steps from the part's points, made larger, to the next ones, made larger, in order."""
    goal = made_larger(m, part.step)
    # What makes a point larger makes its partner smaller.
    waiting = [Way([], [0, 0], made_smaller(m, part.low), made_smaller(m, part.high))]
    rows = []
    while len(waiting) > 0:
        way = waiting.pop()
        if way.gone == goal:
            rows.append(way.row)
        else:
            # The last one is taken first, so the way with the least step is put last.
            waiting.extend(list(reversed(ways_on(m, parts, way))))
    return rows


def ways_on(m, parts, way):
    """The ways that lead on from this one by a further step, the least step first."""
    ways = []
    for part in parts:
        low = part.low if is_below(m, way.low, part.low) else way.low
        high = way.high if is_below(m, way.high, part.high) else part.high
        if is_below(m, low, high):
            moved = partner(m, part.step)
            ways.append(Way(way.row + [part.step], plus(way.gone, part.step), plus(low, moved), plus(high, moved)))
    return ways


def partner(m, number):
    """The number with m less w in w's place."""
    return [number[0] + m * number[1], -number[1]]


def made_larger(m, number):
    """The number times w w."""
    a = number[0]
    b = number[1]
    return [a + m * b, m * a + (m * m + 1) * b]


def made_smaller(m, number):
    """The number divided by w w."""
    # w by its partner is -1, so w w's partner, m m and 1 less m w, undoes w w without a division.
    a = number[0]
    b = number[1]
    return [(m * m + 1) * a - m * b, b - m * a]


def plus(number, other):
    """Both numbers together."""
    return [number[0] + other[0], number[1] + other[1]]


def minus(number, other):
    """The number less the other."""
    return [number[0] - other[0], number[1] - other[1]]


def lies_within(m, number, low, high):
    """Whether the number lies from low on and below high."""
    return not is_below(m, number, low) and is_below(m, number, high)


def is_below(m, number, other):
    """Whether number lies below other on the line."""
    # Twice the difference is p and q times the root of m m + 4. Squares that keep their
    # number's sign lie in the order of the numbers, so the root itself is never needed.
    apart = minus(number, other)
    q = apart[1]
    p = 2 * apart[0] + m * q
    return p * abs(p) + (m * m + 4) * q * abs(q) < 0
