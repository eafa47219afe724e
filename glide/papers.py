"""Papers: a line that parts two gliding bodies, or the clash of them, with what it takes to check it."""

from glide.bodies import where
from glide.clashes import clash, end_of_overlap, line_up_to, parts_up_to
from glide.portions import plus, times, under
from glide.shared import inner, shared
from glide.spots import MIDDLE, gone_on

HALF = (1, 2)


def least_where(ones, others, D, S):
    return min(where(ones, MIDDLE, S), where(others, D, S))


class Paper:
    def told(self):
        return ()

    def is_clash(self):
        return False

    def holds(self, ones, others, D, V):
        return False


class Line(Paper):
    def __init__(self, n, t):
        self.n = n
        self.t = t

    def told(self):
        return (self.n, self.t)

    def holds(self, ones, others, D, V):
        if self.t is not None and self.t[0] < 0:
            return False
        return parts_up_to(ones, others, D, V, self.n, self.t)


class Clash(Paper):
    def __init__(self, t, n, P, later, Q):
        self.t = t
        self.n = n
        self.P = P
        self.later = later
        self.Q = Q

    def told(self):
        return (self.t, self.n, self.P, self.later, self.Q)

    def is_clash(self):
        return True

    def holds(self, ones, others, D, V):
        if not Line(self.n, self.t).holds(ones, others, D, V) or not under(self.t, self.later):
            return False
        touching = least_where(ones, others, gone_on(D, V, self.t), self.P)
        overlapping = least_where(ones, others, gone_on(D, V, self.later), self.Q)
        return touching >= 0 and overlapping == 1


def meeting(ones, others, D, V):
    t = clash(ones, others, D, V)
    n = line_up_to(ones, others, D, V, t)
    if t is None:
        return Line(n, None)
    later = times(HALF, plus(t, end_of_overlap(ones, others, D, V)))
    P = shared(ones, others, gone_on(D, V, t))[0]
    Q = inner(ones, others, gone_on(D, V, later))
    return Clash(t, n, P, later, Q)
