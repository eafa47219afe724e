"""The floor: named bodies that glide, and halt where they would overlap."""

from glide.errors import Crowded, NoName, Past, Twice
from glide.hulls import hull
from glide.papers import meeting
from glide.portions import minus, plus, under
from glide.rounds import first_clash, lines_of, shift_seen, speed_seen
from glide.shared import overlap
from glide.spots import gone_on


def is_name(thing):
    if not isinstance(thing, str) or not 1 <= len(thing) <= 12:
        return False
    return all(["a" <= sign <= "z" for sign in thing])


def with_speed(row, V):
    return (row[0], row[1], row[2], (V[0], V[1]))


def later_on(row, t):
    return (row[0], row[1], gone_on(row[2], row[3], t), row[3])


def glides(row):
    return row[3] != (0, 0)


def in_some(name, pairs):
    return any([name in pair for pair in pairs])


class Floor:
    def __init__(self):
        self.now = (0, 1)
        # By each name a tuple (name, corners, S, V), as rounds take them.
        self.rows = {}

    def row_of(self, name):
        if not isinstance(name, str) or name not in self.rows:
            raise NoName("no body is called so")
        return self.rows[name]

    def standing(self):
        return [self.rows[name] for name in sorted(self.rows)]

    def put(self, name, points, shift, V):
        if not is_name(name):
            raise NoName("a name is a text of one to twelve small letters")
        if name in self.rows:
            raise Twice("a body has this name")
        row = (name, hull(points), (shift[0], shift[1], 1), (V[0], V[1]))
        for other in self.standing():
            if overlap(row[1], other[1], shift_seen(row, other)):
                raise Crowded("it would overlap another body")
        self.rows[name] = row

    def take(self, name):
        self.row_of(name)
        self.rows.pop(name)

    def steer(self, name, V):
        self.rows[name] = with_speed(self.row_of(name), V)

    def pass_time(self, t):
        for row in self.standing():
            self.rows[row[0]] = later_on(row, t)
        self.now = plus(self.now, t)

    def stretch_to(self, t, pairs):
        begin = self.now
        lines = lines_of(self.standing(), t)
        self.pass_time(t)
        halted = [row for row in self.standing() if glides(row) and in_some(row[0], pairs)]
        for row in halted:
            self.rows[row[0]] = with_speed(row, (0, 0))
        return (begin, self.now, lines, pairs, [row[0] for row in halted])

    def stretches_ahead_of(self, time):
        stretches = []
        found = first_clash(self.standing())
        while found is not None and (time is None or under(plus(self.now, found[0]), time)):
            stretches.append(self.stretch_to(found[0], found[1]))
            found = first_clash(self.standing())
        return stretches

    def go(self, time):
        if under(time, self.now):
            raise Past("the clock only goes on")
        stretches = self.stretches_ahead_of(time)
        stretches.append(self.stretch_to(minus(time, self.now), []))
        return stretches

    def settle(self):
        stretches = self.stretches_ahead_of(None)
        stretches.append((self.now, None, lines_of(self.standing(), None), [], []))
        return stretches

    def clock(self):
        return self.now

    def names(self):
        return sorted(self.rows)

    def body(self, name):
        return list(self.row_of(name)[1])

    def shift(self, name):
        return self.row_of(name)[2]

    def speed(self, name):
        return self.row_of(name)[3]

    def meet(self, one, other):
        first = self.row_of(one)
        second = self.row_of(other)
        if one == other:
            raise Twice("a body doesn't meet itself")
        return meeting(first[1], second[1], shift_seen(first, second), speed_seen(first, second))
