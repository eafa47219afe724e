"""Bodies, told by their corners: their sides, their normals, and where a spot lies."""

from glide.hulls import left_by
from glide.spots import way_from


def sides(corners):
    following = corners[1:] + corners[:1]
    return list(zip(corners, following))


def normal(side):
    P = side[0]
    Q = side[1]
    return (Q[1] - P[1], P[0] - Q[0])


def normals(corners):
    return [normal(side) for side in sides(corners)]


def where(corners, S, Q):
    # Seen from the shift, the body stands where its corners are.
    seen = way_from(S, Q)
    hands = [left_by(side[0], side[1], seen) for side in sides(corners)]
    nearest = min(hands)
    if nearest > 0:
        return 1
    if nearest == 0:
        return 0
    return -1
