"""The desk: it is told rows of words and answers each with a text."""

from glide.errors import NoRow
from glide.floors import Floor
from glide.portions import plus, portion
from glide.texts import read_point, read_points, read_portion, show_portion


def put_row(floor, words):
    points = read_points(words[2])
    shift = read_point(words[3])
    V = read_point(words[4])
    floor.put(words[1], points, shift, V)
    return "ok"


def take_row(floor, words):
    floor.take(words[1])
    return "ok"


def steer_row(floor, words):
    V = read_point(words[2])
    floor.steer(words[1], V)
    return "ok"


def show_halts(stretches):
    halts = [",".join([show_portion(stretch[1])] + stretch[4]) for stretch in stretches if stretch[4] != []]
    if halts == []:
        return "none"
    return " ".join(halts)


def go_row(floor, words):
    return show_halts(floor.go(read_portion(words[1])))


def settle_row(floor, words):
    return show_halts(floor.settle())


def clock_row(floor, words):
    return show_portion(floor.clock())


def names_row(floor, words):
    return " ".join(floor.names())


def where_row(floor, words):
    S = floor.shift(words[1])
    x = show_portion(portion(S[0], S[2]))
    y = show_portion(portion(S[1], S[2]))
    return f"{x},{y}"


def speed_row(floor, words):
    V = floor.speed(words[1])
    x = V[0]
    y = V[1]
    return f"{x},{y}"


def meet_row(floor, words):
    paper = floor.meet(words[1], words[2])
    if not paper.is_clash():
        return "never"
    return show_portion(plus(floor.clock(), paper.told()[0]))


# By its first word, how many words a row has, and what answers it.
ROWS = {
    "put": (5, put_row),
    "take": (2, take_row),
    "steer": (3, steer_row),
    "go": (2, go_row),
    "settle": (1, settle_row),
    "clock": (1, clock_row),
    "names": (1, names_row),
    "where": (2, where_row),
    "speed": (2, speed_row),
    "meet": (3, meet_row),
}


class Desk:
    def __init__(self):
        self.floor = Floor()

    def say(self, row):
        if not isinstance(row, str):
            raise NoRow("no text")
        words = row.split(" ")
        if words[0] not in ROWS or len(words) != ROWS[words[0]][0]:
            raise NoRow("no row that is known here")
        answer = ROWS[words[0]][1]
        return answer(self.floor, words)
