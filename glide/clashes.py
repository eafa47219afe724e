"""Clashes of two bodies that glide: the time behind which they overlap, and lines that part them for a time."""

from glide.errors import Crowded
from glide.gaps import along, gap, parts
from glide.lines import directions, line
from glide.portions import portion, under
from glide.spots import gone_on


def greatest(times):
    found = times[0]
    for t in times:
        if under(found, t):
            found = t
    return found


def smallest(times):
    found = times[0]
    for t in times:
        if under(t, found):
            found = t
    return found


def touch(ones, others, D, V, n):
    now = gap(ones, others, D, n)
    return portion(-now[0], now[1] * along(V, n))


def parts_up_to(ones, others, D, V, n, t):
    # A gap changes evenly, so from 0 on at both ends it is so all along.
    if not parts(ones, others, D, n):
        return False
    if t is None:
        return along(V, n) >= 0
    return parts(ones, others, gone_on(D, V, t), n)


def uprights(V):
    return [(V[1], -V[0]), (-V[1], V[0])]


def line_up_to(ones, others, D, V, t):
    # Bodies that pass close by at their corners may be parted by the way they glide alone.
    for n in directions(ones, others) + uprights(V):
        if parts_up_to(ones, others, D, V, n, t):
            return n
    return None


def clash(ones, others, D, V):
    if line(ones, others, D) is None:
        raise Crowded("the two bodies overlap now")
    if line_up_to(ones, others, D, V, None) is not None:
        return None
    # They overlap once all gaps are below 0, and those that aren't now all fall: else one would part for ever.
    return greatest([touch(ones, others, D, V, n) for n in directions(ones, others) if parts(ones, others, D, n)])


def end_of_overlap(ones, others, D, V):
    # Of two that clash: they overlap till the first gap that grows is no more below 0.
    return smallest([touch(ones, others, D, V, n) for n in directions(ones, others) if along(V, n) > 0])
