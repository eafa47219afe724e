"""What two bodies share: the corners of it, and a spot within both."""

from glide.bodies import sides, where
from glide.lines import line
from glide.portions import portion
from glide.spots import MIDDLE, ahead, gone_on, put_at, spot


def across(one, other):
    return one[0] * other[1] - one[1] * other[0]


def way_along(side):
    return (side[1][0] - side[0][0], side[1][1] - side[0][1])


def is_part(top, bottom):
    if bottom < 0:
        return bottom <= top <= 0
    return 0 <= top <= bottom


def crossing(side, other, D):
    forth = way_along(side)
    back = way_along(other)
    turn = across(forth, back)
    # Sides along one line or side by side: the ends of what they share are corners, and found as these.
    if turn == 0:
        return None
    step = way_along((side[0], other[0]))
    # From begin to begin, times D[2]: so all stays whole till it is known that they meet.
    way = (step[0] * D[2] + D[0], step[1] * D[2] + D[1])
    bottom = turn * D[2]
    if not is_part(across(way, back), bottom) or not is_part(across(way, forth), bottom):
        return None
    return gone_on(put_at(side[0], MIDDLE), forth, portion(across(way, back), bottom))


def crossings(ones, others, D):
    found = []
    for side in sides(ones):
        for other in sides(others):
            S = crossing(side, other, D)
            if S is not None:
                found.append(S)
    return found


def corners_within(corners, S, others, D):
    spots = [put_at(corner, S) for corner in corners]
    return [Q for Q in spots if where(others, D, Q) >= 0]


def in_order(spots):
    kept = []
    for S in spots:
        place = len([Q for Q in kept if ahead(Q, S)])
        kept.insert(place, S)
    return kept


def shared(ones, others, D):
    found = corners_within(ones, MIDDLE, others, D) + corners_within(others, D, ones, MIDDLE)
    found = found + crossings(ones, others, D)
    # Lowest terms write a spot in one way alone, so a dict keeps each once.
    return in_order(list(dict([(S, True) for S in found])))


def amid(A, B, C):
    x = A[0] * B[2] * C[2] + B[0] * A[2] * C[2] + C[0] * A[2] * B[2]
    y = A[1] * B[2] * C[2] + B[1] * A[2] * C[2] + C[1] * A[2] * B[2]
    return spot(x, y, 3 * A[2] * B[2] * C[2])


def inner(ones, others, D):
    corners = shared(ones, others, D)
    if len(corners) < 3:
        return None
    # No shared corner lies between two others, so no three lie on one line.
    return amid(corners[0], corners[1], corners[2])


def overlap(ones, others, D):
    return line(ones, others, D) is None
