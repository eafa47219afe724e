"""Spots on the floor. A spot is a tuple (x, y, w) in lowest terms, w from 1 on, and lies at x / w and y / w."""

from glide.errors import NoNumber
from glide.portions import divisor, is_whole

MIDDLE = (0, 0, 1)


def spot(x, y, w):
    if not is_whole(x) or not is_whole(y) or not is_whole(w) or w == 0:
        raise NoNumber("a spot is made of three whole numbers, the third not 0")
    common = divisor(divisor(x, y), w)
    # Divided by a number of its own sign, w comes out above 0.
    if w < 0:
        common = -common
    return (x // common, y // common, w // common)


def put_at(point, S):
    return spot(point[0] * S[2] + S[0], point[1] * S[2] + S[1], S[2])


def gone_on(S, V, t):
    x = S[0] * t[1] + V[0] * t[0] * S[2]
    y = S[1] * t[1] + V[1] * t[0] * S[2]
    return spot(x, y, S[2] * t[1])


def way_from(S, Q):
    x = Q[0] * S[2] - S[0] * Q[2]
    y = Q[1] * S[2] - S[1] * Q[2]
    return spot(x, y, S[2] * Q[2])


def ahead(S, Q):
    # Both third numbers are above 0, so multiplying by them keeps the order.
    left = S[0] * Q[2]
    right = Q[0] * S[2]
    return left < right or (left == right and S[1] * Q[2] < Q[1] * S[2])
