"""Bodies to test with, and what is reckoned of them in another way than the program does it."""

import random
from fractions import Fraction

from glide.errors import Flat
from glide.hulls import hull

GREAT = 10 ** 60 - 1
MIDDLE = (0, 0, 1)

SQUARE = [(0, 0), (2, 0), (2, 2), (0, 2)]
TRIANGLE = [(0, 0), (4, 0), (0, 4)]
DIAMOND = [(-2, 0), (0, -2), (2, 0), (0, 2)]
NEEDLE = [(-5, -2), (6, 3), (5, 3)]
HEXAGON = [(-3, 0), (-1, -2), (2, -2), (3, 0), (1, 2), (-2, 2)]
VAST = [(-GREAT, -GREAT), (GREAT, -GREAT), (GREAT, GREAT - 1), (-GREAT, GREAT)]
BODIES = (SQUARE, TRIANGLE, DIAMOND, NEEDLE, HEXAGON)


def place(S):
    return (Fraction(S[0], S[2]), Fraction(S[1], S[2]))


def moved(corners, S):
    x, y = place(S)
    return [(corner[0] + x, corner[1] + y) for corner in corners]


def cross(P, Q, R):
    return (Q[0] - P[0]) * (R[1] - P[1]) - (Q[1] - P[1]) * (R[0] - P[0])


def clipped(figure, P, Q):
    """What of a figure lies at the left hand of the line from P to Q, or on it."""
    kept = []
    for k, corner in enumerate(figure):
        before = figure[k - 1]
        here = cross(P, Q, corner)
        there = cross(P, Q, before)
        if here * there < 0:
            part = Fraction(there) / (there - here)
            kept.append(tuple(b + part * (c - b) for b, c in zip(before, corner)))
        if here >= 0:
            kept.append(corner)
    return kept


def common(ones, others, D):
    """The figure that both have, perhaps with corners twice or on a side, as places."""
    figure = [(Fraction(x), Fraction(y)) for x, y in ones]
    rim = moved(others, D)
    for k, Q in enumerate(rim):
        if not figure:
            break
        figure = clipped(figure, rim[k - 1], Q)
    return figure


def area(figure):
    """Twice the area."""
    return sum(P[0] * Q[1] - P[1] * Q[0] for P, Q in zip(figure, figure[1:] + figure[:1]))


def overlap_by_area(ones, others, D):
    return area(common(ones, others, D)) > 0


def drawn_body(rng, size=6, count=6):
    while True:
        points = [(rng.randint(-size, size), rng.randint(-size, size)) for k in range(count)]
        try:
            return hull(points)
        except Flat:
            continue


def drawn_spot(rng, size=8):
    from glide.spots import spot
    return spot(rng.randint(-size * 3, size * 3), rng.randint(-size * 3, size * 3), rng.choice((1, 2, 3, 4)))


def drawn_pairs(seed, count, size=6):
    """Tuples (ones, others, D), apart, touching and overlapping."""
    rng = random.Random(seed)
    return [(drawn_body(rng, size), drawn_body(rng, size), drawn_spot(rng, size)) for k in range(count)]
