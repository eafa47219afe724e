"""The hull of a list of points: the corners of the least figure without bays that has all the points."""

from glide.errors import Flat


def left_by(P, Q, S):
    # Above 0 at the left hand for who goes from P to Q: multiplied by S[2], from 1 on, so that all stays whole.
    right = S[0] - P[0] * S[2]
    up = S[1] - P[1] * S[2]
    return (Q[0] - P[0]) * up - (Q[1] - P[1]) * right


def turns_left(P, Q, R):
    return left_by(P, Q, (R[0], R[1], 1)) > 0


def chain(points):
    kept = []
    for point in points:
        # A point at which the way goes straight on or to the right lies between others, so it is no corner.
        while len(kept) > 1 and not turns_left(kept[-2], kept[-1], point):
            kept.pop()
        kept.append(point)
    return kept


def hull(points):
    unlike = sorted(set([(point[0], point[1]) for point in points]))
    below = chain(unlike)
    above = chain(list(reversed(unlike)))
    # Each chain ends where the other one begins.
    corners = below[:-1] + above[:-1]
    if len(corners) < 3:
        raise Flat("all points lie on one line")
    return corners
