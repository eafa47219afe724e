"""How far points and bodies lie along a direction, and the gap of two bodies along it."""

from glide.portions import portion


def along(point, n):
    return point[0] * n[0] + point[1] * n[1]


def least(corners, n):
    return min([along(corner, n) for corner in corners])


def most(corners, n):
    return max([along(corner, n) for corner in corners])


def gap_top(ones, others, D, n):
    # The gap times D[2], from 1 on: it has the gap's sign, and takes no dividing to lowest terms.
    apart = least(others, n) - most(ones, n)
    return apart * D[2] + along((D[0], D[1]), n)


def gap(ones, others, D, n):
    return portion(gap_top(ones, others, D, n), D[2])


def parts(ones, others, D, n):
    return n != (0, 0) and gap_top(ones, others, D, n) >= 0
