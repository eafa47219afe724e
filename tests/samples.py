"""Bodies to test with, and what is reckoned of them in another way than the program does it."""

import random
from fractions import Fraction

from glide.errors import Flat
from glide.hulls import hull
from glide.spots import spot

GREAT = 10 ** 60 - 1
MIDDLE = (0, 0, 1)

UNIT = [(0, 0), (1, 0), (1, 1), (0, 1)]
SQUARE = [(0, 0), (2, 0), (2, 2), (0, 2)]
TRIANGLE = [(0, 0), (4, 0), (0, 4)]
DIAMOND = [(-2, 0), (0, -2), (2, 0), (0, 2)]
NEEDLE = [(-5, -2), (6, 3), (5, 3)]
HEXAGON = [(-3, 0), (-1, -2), (2, -2), (3, 0), (1, 2), (-2, 2)]
VAST = [(-GREAT, -GREAT), (GREAT, -GREAT), (GREAT, GREAT - 1), (-GREAT, GREAT)]
BODIES = (SQUARE, TRIANGLE, DIAMOND, NEEDLE, HEXAGON)

# What it is, two bodies, the others' shift and speed as seen from the ones, and their clash.
COURSES = (
    ("towards", SQUARE, SQUARE, (5, 0, 1), (-1, 0), (3, 1)),
    ("towards, from the left", SQUARE, SQUARE, (-5, 0, 1), (1, 0), (3, 1)),
    ("small ones, slowly", UNIT, UNIT, (-3, 0, 1), (1, 0), (2, 1)),
    ("towards, from above", SQUARE, SQUARE, (1, 7, 1), (0, -2), (5, 2)),
    ("towards, from below", SQUARE, SQUARE, (-1, -7, 1), (0, 3), (5, 3)),
    ("towards, slanting", SQUARE, SQUARE, (5, 5, 1), (-2, -1), (3, 1)),
    ("corner upon corner, then over", SQUARE, SQUARE, (5, 5, 1), (-1, -1), (3, 1)),
    ("corner upon corner, then past", SQUARE, SQUARE, (5, -1, 1), (-3, 3), None),
    ("slanting sides", DIAMOND, DIAMOND, (8, 5, 1), (-1, -1), (9, 2)),
    ("a shift that is not whole", SQUARE, SQUARE, (5, 1, 2), (-3, 0), (1, 6)),
    ("a corner upon a side", SQUARE, DIAMOND, (9, 3, 2), (-1, 0), (1, 2)),
    ("a corner upon a slanting side", TRIANGLE, SQUARE, (4, 4, 1), (-1, -2), (4, 3)),
    ("past", SQUARE, SQUARE, (5, 5, 1), (-1, 0), None),
    ("past, the other side", SQUARE, SQUARE, (5, -5, 1), (-1, 0), None),
    ("hardly past", SQUARE, SQUARE, (5 * GREAT, 2 * GREAT + 1, GREAT), (-1, 0), None),
    ("hardly not past", SQUARE, SQUARE, (5 * GREAT, 2 * GREAT - 1, GREAT), (-1, 0), (3, 1)),
    ("along one another", SQUARE, SQUARE, (2, 1, 1), (0, 1), None),
    ("along one another, later on", SQUARE, SQUARE, (5, 2, 1), (-1, 0), None),
    ("along one another, slanting, later on", DIAMOND, DIAMOND, (8, 4, 1), (-1, -1), None),
    ("along one another, slanting", DIAMOND, DIAMOND, (2, 2, 1), (5, -5), None),
    ("away", SQUARE, SQUARE, (5, 0, 1), (1, 0), None),
    ("away, slanting", TRIANGLE, HEXAGON, (-9, -1, 1), (-3, 1), None),
    ("touching, into one another", SQUARE, SQUARE, (2, 1, 1), (-1, 0), (0, 1)),
    ("touching, into one another, slanting", SQUARE, SQUARE, (2, 1, 1), (-1, 5), (0, 1)),
    ("touching at a corner, into one another", SQUARE, SQUARE, (2, 2, 1), (-3, -1), (0, 1)),
    ("touching, apart", SQUARE, SQUARE, (2, 1, 1), (1, 0), None),
    ("touching, apart, slanting", SQUARE, SQUARE, (2, 1, 1), (1, 5), None),
    ("touching at a corner, apart", SQUARE, SQUARE, (2, 2, 1), (1, 1), None),
    ("touching at a corner, along a side", SQUARE, SQUARE, (2, 2, 1), (-1, 0), None),
    ("touching at a corner, past it", SQUARE, SQUARE, (2, 2, 1), (-1, 1), None),
    ("corners that only touch on their way", SQUARE, DIAMOND, (1, -6, 1), (1, 2), None),
    ("standing, apart", SQUARE, SQUARE, (5, 0, 1), (0, 0), None),
    ("standing, touching", SQUARE, SQUARE, (2, 0, 1), (0, 0), None),
    ("great ones", VAST, VAST, (3 * GREAT, 0, 1), (-1, 0), (GREAT, 1)),
    ("fast", SQUARE, SQUARE, (5, 0, 1), (-GREAT, 0), (1, GREAT // 3)),
    ("far and fast", SQUARE, SQUARE, (GREAT, GREAT, 1), (1 - GREAT, 1 - GREAT), (GREAT - 2, GREAT - 1)),
    ("far and slow", SQUARE, SQUARE, (GREAT, 1, 1), (-1, 0), (GREAT - 2, 1)),
    ("through and out on the far side", SQUARE, SQUARE, (3, 0, 1), (-100, 0), (1, 100)),
)


def back(D):
    return (-D[0], -D[1], D[2])


def turned(V):
    return (-V[0], -V[1])


def place(S):
    return (Fraction(S[0], S[2]), Fraction(S[1], S[2]))


def moved(corners, S):
    x, y = place(S)
    return [(corner[0] + x, corner[1] + y) for corner in corners]


def cross(P, Q, R):
    return (Q[0] - P[0]) * (R[1] - P[1]) - (Q[1] - P[1]) * (R[0] - P[0])


def clipped(figure, P, Q):
    """What of a figure lies at the left hand of the line from P to Q, or on it."""
    kept = []
    for k, corner in enumerate(figure):
        before = figure[k - 1]
        here = cross(P, Q, corner)
        there = cross(P, Q, before)
        if here * there < 0:
            part = Fraction(there) / (there - here)
            kept.append(tuple(b + part * (c - b) for b, c in zip(before, corner)))
        if here >= 0:
            kept.append(corner)
    return kept


def common(ones, others, D):
    """The figure that both have, perhaps with corners twice or on a side, as places."""
    figure = [(Fraction(x), Fraction(y)) for x, y in ones]
    rim = moved(others, D)
    for k, Q in enumerate(rim):
        if not figure:
            break
        figure = clipped(figure, rim[k - 1], Q)
    return figure


def area(figure):
    """Twice the area."""
    return sum(P[0] * Q[1] - P[1] * Q[0] for P, Q in zip(figure, figure[1:] + figure[:1]))


def overlap_by_area(ones, others, D):
    return area(common(ones, others, D)) > 0


def between(point, P, Q):
    return (P < point < Q or Q < point < P) and cross(P, Q, point) == 0


def corners_of(figure):
    """The places of a figure's rim that lie between no two others, sorted."""
    places = sorted(set(figure))
    return [
        point for point in places
        if not any(between(point, P, Q) for P in places for Q in places)
    ]


def at_time(D, V, t):
    x, y = place(D)
    return as_spot((x + t * V[0], y + t * V[1]))


def as_spot(point):
    x, y = Fraction(point[0]), Fraction(point[1])
    return spot(x.numerator * y.denominator, y.numerator * x.denominator, x.denominator * y.denominator)


def as_tuple(number):
    return (number.numerator, number.denominator)


def times_on_a_line(corners, sides, V):
    """The times at which a corner that glides with V comes to the line of a side."""
    for P, Q in sides:
        growth = (Q[0] - P[0]) * V[1] - (Q[1] - P[1]) * V[0]
        if growth != 0:
            for corner in corners:
                yield Fraction(-cross(P, Q, corner)) / growth


def clash_by_times(ones, others, D, V):
    """The clash as a Fraction: whether two overlap can change only where a corner comes to the line of a side."""
    rim = moved(others, D)
    times = {Fraction(0)}
    times.update(times_on_a_line(rim, zip(ones, ones[1:] + ones[:1]), V))
    times.update(times_on_a_line(ones, zip(rim, rim[1:] + rim[:1]), (-V[0], -V[1])))
    times = sorted(t for t in times if t >= 0)
    times.append(times[-1] + 2)
    for t, following in zip(times, times[1:]):
        if overlap_by_area(ones, others, at_time(D, V, (t + following) / 2)):
            return t
    return None


def drawn_body(rng, size=6, count=6):
    while True:
        points = [(rng.randint(-size, size), rng.randint(-size, size)) for k in range(count)]
        try:
            return hull(points)
        except Flat:
            continue


def drawn_spot(rng, size=8):
    return spot(rng.randint(-size * 3, size * 3), rng.randint(-size * 3, size * 3), rng.choice((1, 2, 3, 4)))


def drawn_pairs(seed, count, size=6):
    """Tuples (ones, others, D), apart, touching and overlapping."""
    rng = random.Random(seed)
    return [(drawn_body(rng, size), drawn_body(rng, size), drawn_spot(rng, size)) for k in range(count)]


def drawn_courses(seed, count, size=4):
    """Tuples (ones, others, D, V) that don't overlap now; small numbers, so that many touch and many just pass."""
    rng = random.Random(seed)
    found = []
    while len(found) < count:
        ones = drawn_body(rng, size, 5)
        others = drawn_body(rng, size, 5)
        w = rng.choice((1, 1, 2, 3))
        D = spot(rng.randint(-9 * w, 9 * w), rng.randint(-9 * w, 9 * w), w)
        if not overlap_by_area(ones, others, D):
            x, y = (-D[0] // D[2], -D[1] // D[2]) if rng.random() < 0.7 else (0, 0)
            found.append((ones, others, D, (x + rng.randint(-3, 3), y + rng.randint(-3, 3))))
    return found
