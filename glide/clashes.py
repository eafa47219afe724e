"""Clashes of two bodies that glide: the time behind which they overlap, and lines that part them for a time."""

from glide.errors import Crowded
from glide.gaps import along, gap, parts
from glide.lines import directions, line
from glide.portions import portion, under
from glide.spots import gone_on


def greatest(times):
    found = times[0]
    for t in times:
        if under(found, t):
            found = t
    return found


def smallest(times):
    found = times[0]
    for t in times:
        if under(t, found):
            found = t
    return found


def time_of_touch(course):
    now = course[0]
    return portion(-now[0], now[1] * course[1])


def overlap_span(ones, others, D, V):
    # They overlap just while all their gaps are below 0, and a gap grows or falls evenly.
    courses = [(gap(ones, others, D, n), along(V, n)) for n in directions(ones, others)]
    if any([growth == 0 and now[0] >= 0 for now, growth in courses]):
        return None
    # Bodies are bounded: of two that glide some gaps fall and some grow.
    begin = greatest([time_of_touch(course) for course in courses if course[1] < 0])
    end = smallest([time_of_touch(course) for course in courses if course[1] > 0])
    if not under(begin, end):
        return None
    return (begin, end)


def clash(ones, others, D, V):
    if line(ones, others, D) is None:
        raise Crowded("the two bodies overlap now")
    span = overlap_span(ones, others, D, V)
    # Where the span begins before now it is over: they don't overlap now.
    if span is None or span[0][0] < 0:
        return None
    return span[0]


def parts_up_to(ones, others, D, V, n, t):
    # A gap changes evenly, so from 0 on at both ends it is so all along.
    if not parts(ones, others, D, n):
        return False
    if t is None:
        return along(V, n) >= 0
    return parts(ones, others, gone_on(D, V, t), n)


def uprights(V):
    return [(V[1], -V[0]), (-V[1], V[0])]


def line_up_to(ones, others, D, V, t):
    # Bodies that pass close by at their corners may be parted by the way they glide alone.
    for n in directions(ones, others) + uprights(V):
        if parts_up_to(ones, others, D, V, n, t):
            return n
    return None
