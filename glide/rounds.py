"""One round of many gliding bodies: which pairs clash first, and the lines that part them up to a time.

Each body stands as a tuple (name, corners, S, V), and these are sorted by names.
"""

from glide.clashes import clash, line_up_to
from glide.portions import under
from glide.spots import way_from


def two_by_two(standing):
    found = []
    for k, one in enumerate(standing):
        for other in standing[k + 1:]:
            found.append((one, other))
    return found


def shift_seen(one, other):
    return way_from(one[2], other[2])


def speed_seen(one, other):
    return (other[3][0] - one[3][0], other[3][1] - one[3][1])


def first_clash(standing):
    first = None
    pairs = []
    for one, other in two_by_two(standing):
        t = clash(one[1], other[1], shift_seen(one, other), speed_seen(one, other))
        if t is None:
            continue
        if first is None or under(t, first):
            first = t
            pairs = []
        if t == first:
            pairs.append((one[0], other[0]))
    if first is None:
        return None
    return (first, pairs)


def line_of(one, other, t):
    n = line_up_to(one[1], other[1], shift_seen(one, other), speed_seen(one, other), t)
    return (one[0], other[0], n)


def lines_of(standing, t):
    return [line_of(one, other, t) for one, other in two_by_two(standing)]
