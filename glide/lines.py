"""The line of two bodies: a direction that parts them."""

from glide.bodies import normals
from glide.gaps import parts


def turned(n):
    return (-n[0], -n[1])


def directions(ones, others):
    return normals(ones) + [turned(n) for n in normals(others)]


def line(ones, others, D):
    # Two bodies without bays that don't overlap are parted by one of these.
    for n in directions(ones, others):
        if parts(ones, others, D, n):
            return n
    return None
