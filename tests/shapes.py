"""Rings by chance, and what they share, reckoned another way than the package does."""

from fractions import Fraction

SQUARE = ((0, 0), (4, 0), (4, 4), (0, 4))
TRIANGLE = ((0, 0), (6, 0), (0, 3))
OCTAGON = ((1, 0), (2, 0), (3, 1), (3, 2), (2, 3), (1, 3), (0, 2), (0, 1))
SIDE = ((0, 0), (4, 2))
POINT = ((3, 1),)
MOST = 10 ** 9

NO_RINGS = [
    (), [], {}, None, 0, True, "ab", ((0, 0), (0, 0)), ((0, 0), (1, 0), (0, 0)), ((0, 0), (2, 0), (4, 0)),
    ((0, 0), (2, 0), (4, 0), (4, 4)), SQUARE[::-1], TRIANGLE[::-1], OCTAGON + ((0, 0),),
    ((0, 0), (4, 0), (4, 4), (0, 4), (0, 0)), list(SQUARE), ([0, 0], [4, 0], [4, 4]), ((0, 0), (4, 0), [4, 4]),
    ((True, 0),), ((0, False),), ((0, 0), (True, 0)), ((MOST + 1, 0),), ((0, -MOST - 1),), ((0, 0), (MOST + 1, 0)),
    ((0, 0, 0),), ((0,),), (0, 0), ((0, None),), (("0", "0"),), (((0, 1), (0, 1)),), "ring", (None,),
    # Each three beside one another turn left, but the ring goes around twice.
    ((0, 3), (-2, -3), (3, 1), (-3, 1), (2, -3)),
    ((0, 0), (4, 0), (4, 4), (0, 4), (1, 1)),
    # Nine corners that would do but for their number.
    tuple((k, k * k) for k in range(9)),
]


def cross(a, b, c):
    return (b[0] - a[0]) * (c[1] - a[1]) - (b[1] - a[1]) * (c[0] - a[0])


def hull(points):
    """The corners of the hull of whole points, turning left, none on a side."""
    rows = sorted(set(points))
    if len(rows) < 3:
        return tuple(rows)
    halves = []
    for order in (rows, rows[::-1]):
        half = []
        for point in order:
            while len(half) > 1 and cross(half[-2], half[-1], point) <= 0:
                half.pop()
            half.append(point)
        halves.append(half[:-1])
    return tuple(halves[0] + halves[1])


def some_ring(chances, most, corners=None):
    """A ring by chance, of corners up to the most, beginning anywhere."""
    while True:
        count = corners or chances.choice([1, 2, 3, 3, 4, 5, 8])
        points = [(chances.randint(-most, most), chances.randint(-most, most)) for _ in range(count)]
        found = hull(points)
        if 1 <= len(found) <= 8 and (corners is None or len(found) == corners):
            at = chances.randrange(len(found))
            return found[at:] + found[:at]


def walls(corners):
    """Rows (p, q, most): the hull are just the places with p x + q y at most the most, for all of them."""
    if len(corners) == 1:
        (x, y), = corners
        return [(1, 0, x), (-1, 0, -x), (0, 1, y), (0, -1, -y)]
    if len(corners) == 2:
        (ax, ay), (bx, by) = corners
        dx, dy = bx - ax, by - ay
        ahead, line = sorted([dx * ax + dy * ay, dx * bx + dy * by]), dx * ay - dy * ax
        return [(dx, dy, ahead[1]), (-dx, -dy, -ahead[0]), (-dy, dx, line), (dy, -dx, -line)]
    found = []
    for (ax, ay), (bx, by) in zip(corners, corners[1:] + corners[:1]):
        p, q = by - ay, ax - bx
        found.append((p, q, p * ax + q * ay))
    return found


def holds(corners, place):
    return all(p * place[0] + q * place[1] <= most for p, q, most in walls(corners))


def cut_off(points, wall):
    """What is left of a hull's points at the inner side of a wall."""
    p, q, most = wall
    found = []
    for (ax, ay), (bx, by) in zip(points, points[1:] + points[:1]):
        a, b = p * ax + q * ay - most, p * bx + q * by - most
        if a <= 0:
            found.append((ax, ay))
        if a * b < 0:
            part = Fraction(a) / (a - b)
            found.append((ax + (bx - ax) * part, ay + (by - ay) * part))
    return found


def touch(ones, others):
    """Whether two hulls share a place."""
    points = [(Fraction(x), Fraction(y)) for x, y in ones]
    for wall in walls(others):
        points = cut_off(points, wall)
    return len(points) > 0


def standing(row, moment):
    """The corners of a row at a moment, as fractions of Python's."""
    start, ring, pace = row
    return tuple((x + pace[0] * (moment - start), y + pace[1] * (moment - start)) for x, y in ring)


def box(corners):
    across, upward = [x for x, y in corners], [y for x, y in corners]
    return min(across), min(upward), max(across), max(upward)


def gap_of(ones, others):
    a, b = box(ones), box(others)
    return max(0, a[0] - b[2], b[0] - a[2], a[1] - b[3], b[1] - a[3])


def as_number(one):
    return Fraction(one[0], one[1])


def as_pair(number):
    number = Fraction(number)
    return (number.numerator, number.denominator)


def as_place(place):
    return (as_number(place[0]), as_number(place[1]))
