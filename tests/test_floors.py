import itertools
import random
import unittest
from fractions import Fraction

from glide.errors import Crowded, Flat, NoName, Past, Twice
from glide.floors import Floor
from glide.gaps import gap
from glide.papers import Clash, Line
from glide.shared import overlap
from glide.spots import way_from
from samples import GREAT, SQUARE, TRIANGLE, as_tuple, at_time, clash_by_times, drawn_body

FLAT = [(0, 0), (1, 1), (2, 2)]
NO_NAMES = (
    "", "A", "aB", "a1", "1", "a b", " a", "a ", "a\n", "\na", "a\t", "a_", "a-b", "a,b", "abcdefghijklm", "a" * 13,
    "\u00e4", "\u0430", "a.", "None", None, True, False, 0, 1, 1.5, b"a", [], ["a"], ("a",), (), {}, {"a": 1}, object(),
)
NOT_CALLED = ("zz", "b", "", "A", "abcdefghijklm")


def state(floor):
    return [floor.clock(), floor.names()] + [
        (floor.body(name), floor.shift(name), floor.speed(name)) for name in floor.names()
    ]


def floor_of(*rows):
    """A floor of squares, two wide, each of a name, the place of its lower left corner and a speed."""
    floor = Floor()
    for name, x, y, V in rows:
        floor.put(name, SQUARE, (x, y), V)
    return floor


def halts(stretches):
    return [(end, pairs, halted) for begin, end, lines, pairs, halted in stretches if halted]


class FloorCase(unittest.TestCase):
    """Checks what a going tells by gliding the bodies along on its own."""

    def checked_go(self, floor, time):
        return self.checked(floor, time, lambda: floor.go(time))

    def checked_settle(self, floor):
        return self.checked(floor, None, floor.settle)

    def checked(self, floor, time, deed):
        now = floor.clock()
        bodies = {name: floor.body(name) for name in floor.names()}
        shifts = {name: floor.shift(name) for name in bodies}
        speeds = {name: floor.speed(name) for name in bodies}
        told = deed()
        self.assertIs(type(told), list)
        gliding = len([V for V in speeds.values() if V != (0, 0)])
        self.assertLessEqual(len(told), gliding + 1)
        for k, stretch in enumerate(told):
            self.assertIs(type(stretch), tuple)
            begin, end, lines, pairs, halted = stretch
            self.assertEqual(begin, now)
            self.check_stretch(stretch, bodies, shifts, speeds, k == len(told) - 1)
            if end is not None:
                length = Fraction(*end) - Fraction(*begin)
                shifts = {name: at_time(shifts[name], speeds[name], length) for name in bodies}
                now = end
            self.check_end(stretch, bodies, shifts, speeds, k == len(told) - 1)
            speeds.update({name: (0, 0) for name in halted})
        self.assertEqual(told[-1][1], time)
        self.assertEqual(floor.clock(), now)
        self.assertEqual(floor.names(), sorted(bodies))
        for name in bodies:
            self.assertEqual((floor.body(name), floor.shift(name), floor.speed(name)),
                             (bodies[name], shifts[name], speeds[name]))
        return told

    def check_stretch(self, stretch, bodies, shifts, speeds, last):
        begin, end, lines, pairs, halted = stretch
        for told in (lines, pairs, halted):
            self.assertIs(type(told), list)
        two = list(itertools.combinations(sorted(bodies), 2))
        self.assertEqual([line[:2] for line in lines], two)
        length = None if end is None else Fraction(*end) - Fraction(*begin)
        first = None
        for one, other, n in lines:
            D = way_from(shifts[one], shifts[other])
            V = (speeds[other][0] - speeds[one][0], speeds[other][1] - speeds[one][1])
            self.assertNotEqual(n, (0, 0))
            self.assertGreaterEqual(gap(bodies[one], bodies[other], D, n)[0], 0)
            if end is None:
                self.assertGreaterEqual(V[0] * n[0] + V[1] * n[1], 0)
            else:
                self.assertGreaterEqual(gap(bodies[one], bodies[other], at_time(D, V, length), n)[0], 0)
            clash = clash_by_times(bodies[one], bodies[other], D, V)
            if clash is not None and (first is None or clash < first):
                first = clash
        if not last:
            self.assertEqual(first, length)
        elif end is None:
            self.assertIsNone(first)
        elif first is not None:
            self.assertGreaterEqual(first, length)

    def check_end(self, stretch, bodies, shifts, speeds, last):
        begin, end, lines, pairs, halted = stretch
        if last:
            self.assertEqual((pairs, halted), ([], []))
            return
        expected = []
        for one, other in itertools.combinations(sorted(bodies), 2):
            D = way_from(shifts[one], shifts[other])
            V = (speeds[other][0] - speeds[one][0], speeds[other][1] - speeds[one][1])
            if clash_by_times(bodies[one], bodies[other], D, V) == 0:
                expected.append((one, other))
        self.assertEqual(pairs, expected)
        barred = {name for pair in pairs for name in pair if speeds[name] != (0, 0)}
        self.assertEqual(halted, sorted(barred))
        self.assertNotEqual(halted, [])

    def no_two_overlap(self, floor):
        for one, other in itertools.combinations(floor.names(), 2):
            D = way_from(floor.shift(one), floor.shift(other))
            self.assertIs(overlap(floor.body(one), floor.body(other), D), False)


class PutTest(unittest.TestCase):
    def refused(self, refusal, floor, *row):
        before = state(floor)
        with self.assertRaises(refusal):
            floor.put(*row)
        self.assertEqual(state(floor), before)

    def test_empty_floor(self):
        self.assertEqual(state(Floor()), [(0, 1), []])

    def test_put(self):
        floor = Floor()
        self.assertIsNone(floor.put("b", [(2, 2), (1, 1), (0, 2), (0, 0), (2, 0), (1, 2)], (5, -7), (3, -4)))
        self.assertIsNone(floor.put("abcdefghijkl", TRIANGLE, (-50, 0), (0, 0)))
        self.assertIsNone(floor.put("z", TRIANGLE, (GREAT, -GREAT), (-GREAT, GREAT)))
        self.assertEqual(floor.names(), ["abcdefghijkl", "b", "z"])
        self.assertEqual(floor.body("b"), SQUARE)
        self.assertEqual(floor.shift("b"), (5, -7, 1))
        self.assertEqual(floor.speed("b"), (3, -4))
        self.assertEqual(floor.body("z"), TRIANGLE)
        self.assertEqual(floor.shift("z"), (GREAT, -GREAT, 1))
        self.assertEqual(floor.speed("z"), (-GREAT, GREAT))
        self.assertEqual(floor.clock(), (0, 1))

    def test_all_small_letters(self):
        floor = Floor()
        for k, letter in enumerate("abcdefghijklmnopqrstuvwxyz"):
            floor.put(letter, SQUARE, (3 * k, 0), (0, 0))
        self.assertEqual(floor.names(), list("abcdefghijklmnopqrstuvwxyz"))

    def test_no_name(self):
        floor = floor_of(("a", 0, 0, (1, 0)))
        for name in NO_NAMES:
            with self.subTest(name=name):
                self.refused(NoName, floor, name, SQUARE, (9, 9), (0, 0))

    def test_twice(self):
        self.refused(Twice, floor_of(("a", 0, 0, (1, 0))), "a", SQUARE, (9, 9), (0, 0))

    def test_flat(self):
        floor = floor_of(("a", 0, 0, (1, 0)))
        for points in ([], [(0, 0)], [(0, 0), (5, 1)], [(3, 3)] * 40, FLAT):
            self.refused(Flat, floor, "b", points, (9, 9), (0, 0))

    def test_crowded(self):
        floor = floor_of(("a", 0, 0, (1, 0)), ("c", 9, 0, (0, 0)))
        for shift in ((0, 0), (1, 1), (-1, 1), (8, 0), (10, -1)):
            self.refused(Crowded, floor, "b", SQUARE, shift, (0, 0))
        self.refused(Crowded, floor, "b", [(-GREAT, -GREAT), (GREAT, -GREAT), (0, GREAT)], (0, 0), (0, 0))
        self.refused(Crowded, floor, "b", [(0, 0), (9, 0), (0, 9)], (-3, -3), (0, 0))

    def test_crowded_is_asked_of_now(self):
        floor = floor_of(("a", 0, 0, (1, 0)))
        floor.go((7, 2))
        self.refused(Crowded, floor, "b", SQUARE, (5, 0), (1, 0))
        self.refused(Crowded, floor, "b", SQUARE, (2, 0), (1, 0))
        floor.put("b", SQUARE, (1, 0), (0, 0))
        floor.put("c", SQUARE, (6, 0), (0, 0))
        self.assertEqual(floor.names(), ["a", "b", "c"])

    def test_the_first_of_several_refusals(self):
        floor = floor_of(("a", 0, 0, (1, 0)))
        for name in NO_NAMES:
            self.refused(NoName, floor, name, FLAT, (0, 0), (0, 0))
            self.refused(NoName, floor, name, SQUARE, (0, 0), (0, 0))
        self.refused(Twice, floor, "a", FLAT, (9, 9), (0, 0))
        self.refused(Twice, floor, "a", SQUARE, (0, 0), (0, 0))
        self.refused(Flat, floor, "b", FLAT, (0, 0), (0, 0))

    def test_one_that_only_touches_is_let(self):
        floor = floor_of(("a", 0, 0, (0, 0)))
        for name, shift in (("b", (2, 0)), ("c", (-2, 1)), ("d", (2, 2)), ("e", (-2, -2)), ("f", (0, -2))):
            floor.put(name, SQUARE, shift, (0, 0))
        self.assertEqual(floor.names(), ["a", "b", "c", "d", "e", "f"])

    def test_one_that_bars_another_is_let(self):
        floor = floor_of(("a", 0, 0, (1, 0)), ("b", 2, 0, (-1, 0)))
        self.assertEqual(floor.speed("b"), (-1, 0))
        self.assertEqual(halts(floor.go((1, 1))), [((0, 1), [("a", "b")], ["a", "b"])])

    def test_a_name_that_was_taken_away_is_free(self):
        floor = floor_of(("a", 0, 0, (1, 0)))
        floor.take("a")
        floor.put("a", TRIANGLE, (0, 0), (2, 2))
        self.assertEqual(state(floor), [(0, 1), ["a"], (TRIANGLE, (0, 0, 1), (2, 2))])

    def test_nothing_handed_in_is_changed_or_kept(self):
        floor = Floor()
        points = [(2, 2), (1, 1), (0, 2), (0, 0), (2, 0)]
        before = list(points)
        floor.put("a", points, (0, 0), (0, 0))
        self.assertEqual(points, before)
        points[0] = (99, 99)
        points.clear()
        self.assertEqual(floor.body("a"), SQUARE)
        floor.put("b", SQUARE, (2, 0), (0, 0))
        self.assertEqual(SQUARE, [(0, 0), (2, 0), (2, 2), (0, 2)])

    def test_each_floor_has_its_own(self):
        one = floor_of(("a", 0, 0, (1, 0)))
        other = Floor()
        self.assertEqual(other.names(), [])
        one.go((1, 1))
        self.assertEqual(other.clock(), (0, 1))


class NamesTest(unittest.TestCase):
    def setUp(self):
        self.floor = floor_of(("a", 0, 0, (1, 0)), ("c", 5, 0, (0, 0)))
        self.before = state(self.floor)

    def refused(self, refusal, deed, *arguments):
        with self.subTest(deed=deed.__name__, arguments=arguments):
            with self.assertRaises(refusal):
                deed(*arguments)
            self.assertEqual(state(self.floor), self.before)

    def test_a_name_by_which_no_body_is_called(self):
        floor = self.floor
        for name in NOT_CALLED:
            for deed in (floor.take, floor.body, floor.shift, floor.speed):
                self.refused(NoName, deed, name)
            self.refused(NoName, floor.steer, name, (1, 1))
            self.refused(NoName, floor.meet, name, "a")
            self.refused(NoName, floor.meet, "a", name)
            self.refused(NoName, floor.meet, name, name)

    def test_things_that_are_no_texts(self):
        floor = self.floor
        for name in (None, 0, [], ["a"], {}, ("a",)):
            for deed in (floor.take, floor.body, floor.shift, floor.speed):
                self.refused(NoName, deed, name)
            self.refused(NoName, floor.meet, name, name)

    def test_meet_of_a_name_with_itself(self):
        self.refused(Twice, self.floor.meet, "a", "a")
        self.refused(Twice, self.floor.meet, "c", "c")

    def test_take(self):
        self.assertIsNone(self.floor.take("a"))
        self.assertEqual(self.floor.names(), ["c"])
        self.before = state(self.floor)
        self.refused(NoName, self.floor.take, "a")
        self.refused(NoName, self.floor.shift, "a")
        self.assertEqual(halts(self.floor.settle()), [])

    def test_steer(self):
        self.assertIsNone(self.floor.steer("a", (-3, 7)))
        self.assertEqual(self.floor.speed("a"), (-3, 7))
        self.assertEqual(self.floor.shift("a"), (0, 0, 1))
        self.floor.go((1, 2))
        self.assertEqual(self.floor.shift("a"), (-3, 7, 2))
        self.floor.steer("a", (0, 0))
        self.floor.go((9, 1))
        self.assertEqual(self.floor.shift("a"), (-3, 7, 2))
        self.assertEqual(self.floor.speed("c"), (0, 0))

    def test_lists_are_the_askers_own(self):
        self.floor.names().clear()
        self.floor.body("a").clear()
        self.assertEqual(state(self.floor), self.before)

    def test_names_of_the_arguments(self):
        floor = Floor()
        floor.put(name="a", points=SQUARE, shift=(0, 0), V=(0, 0))
        floor.put(name="b", points=SQUARE, shift=(5, 0), V=(0, 0))
        floor.steer(name="a", V=(1, 0))
        floor.go(time=(1, 1))
        self.assertEqual(floor.body(name="a"), SQUARE)
        self.assertEqual(floor.shift(name="a"), (1, 0, 1))
        self.assertEqual(floor.speed(name="a"), (1, 0))
        self.assertIs(floor.meet(one="a", other="b").is_clash(), True)
        floor.take(name="a")


class GoTest(FloorCase):
    def test_no_bodies_and_one(self):
        floor = Floor()
        self.assertEqual(floor.go((3, 2)), [((0, 1), (3, 2), [], [], [])])
        self.assertEqual(floor.clock(), (3, 2))
        floor.put("a", SQUARE, (0, 0), (2, -1))
        self.assertEqual(floor.go((2, 1)), [((3, 2), (2, 1), [], [], [])])
        self.assertEqual(floor.shift("a"), (2, -1, 2))
        self.assertEqual(floor.speed("a"), (2, -1))

    def test_to_the_clock_itself(self):
        floor = floor_of(("a", 0, 0, (1, 0)), ("b", 2, 0, (0, 0)))
        before = state(floor)
        for again in range(2):
            told = self.checked_go(floor, (0, 1))
            self.assertEqual(len(told), 1)
            self.assertEqual(state(floor), before)

    def test_past(self):
        floor = floor_of(("a", 0, 0, (1, 0)))
        for time in ((-1, 1), (-1, GREAT)):
            with self.assertRaises(Past):
                floor.go(time)
        floor.go((7, 2))
        before = state(floor)
        for time in ((0, 1), (3, 1), (-4, 1), as_tuple(Fraction(7, 2) - Fraction(1, GREAT))):
            with self.assertRaises(Past):
                floor.go(time)
            self.assertEqual(state(floor), before)
        floor.go((7, 2))
        self.assertEqual(state(floor), before)

    def test_two_that_clash_behind_at_and_ahead_of_the_time(self):
        for time, expected in (
            ((1, 1), []), (as_tuple(Fraction(3, 2) - Fraction(1, GREAT)), []), ((3, 2), []),
            (as_tuple(Fraction(3, 2) + Fraction(1, GREAT)), ["a", "b"]), ((9, 1), ["a", "b"]),
        ):
            with self.subTest(time=time):
                floor = floor_of(("a", 0, 0, (1, 0)), ("b", 5, 0, (-1, 0)))
                told = self.checked_go(floor, time)
                if expected:
                    self.assertEqual(halts(told), [((3, 2), [("a", "b")], ["a", "b"])])
                    self.assertEqual([stretch[:2] for stretch in told], [((0, 1), (3, 2)), ((3, 2), time)])
                    self.assertEqual((floor.shift("a"), floor.shift("b")), ((3, 0, 2), (7, 0, 2)))
                    self.assertEqual((floor.speed("a"), floor.speed("b")), ((0, 0), (0, 0)))
                else:
                    self.assertEqual(len(told), 1)
                    self.assertEqual((floor.speed("a"), floor.speed("b")), ((1, 0), (-1, 0)))

    def test_at_just_the_time_they_may_still_be_steered(self):
        floor = floor_of(("a", 0, 0, (1, 0)), ("b", 5, 0, (-1, 0)))
        self.checked_go(floor, (3, 2))
        floor.steer("b", (1, 3))
        self.assertEqual(halts(self.checked_go(floor, (9, 1))), [])
        floor = floor_of(("a", 0, 0, (1, 0)), ("b", 5, 0, (-1, 0)))
        self.checked_go(floor, (3, 2))
        self.assertEqual(halts(self.checked_go(floor, (9, 1))), [((3, 2), [("a", "b")], ["a", "b"])])

    def test_one_that_stands_still_does_not_halt(self):
        floor = floor_of(("a", 0, 0, (0, 0)), ("b", 5, 0, (-1, 0)))
        self.assertEqual(halts(self.checked_go(floor, (9, 1))), [((3, 1), [("a", "b")], ["b"])])

    def test_bodies_that_stand_still(self):
        floor = floor_of(("a", 0, 0, (0, 0)), ("b", 2, 0, (0, 0)), ("c", 9, 0, (0, 0)))
        before = state(floor)[1:]
        self.assertEqual(len(self.checked_go(floor, (GREAT, 1))), 1)
        self.assertEqual(state(floor)[1:], before)

    def test_two_pairs_at_the_same_time(self):
        floor = floor_of(("a", 0, 0, (1, 0)), ("d", 4, 0, (-1, 0)), ("b", 0, 9, (0, 0)), ("c", 3, 9, (-1, 0)))
        told = self.checked_go(floor, (5, 1))
        self.assertEqual(halts(told), [((1, 1), [("a", "d"), ("b", "c")], ["a", "c", "d"])])

    def test_a_body_in_two_pairs(self):
        floor = floor_of(("b", 3, 0, (-1, 0)), ("a", 0, 0, (0, 0)), ("c", 2, 3, (0, -1)))
        told = self.checked_go(floor, (5, 1))
        self.assertEqual(halts(told), [((1, 1), [("a", "b"), ("b", "c")], ["b", "c"])])

    def test_close_behind_one_that_just_halted(self):
        floor = floor_of(("a", 0, 0, (0, 0)), ("b", 3, 0, (-1, 0)), ("c", 5, 0, (-1, 0)), ("d", 7, 0, (-1, 0)))
        told = self.checked_go(floor, (5, 1))
        self.assertEqual([stretch[:2] for stretch in told], [
            ((0, 1), (1, 1)), ((1, 1), (1, 1)), ((1, 1), (1, 1)), ((1, 1), (5, 1))])
        self.assertEqual(halts(told), [
            ((1, 1), [("a", "b")], ["b"]), ((1, 1), [("b", "c")], ["c"]), ((1, 1), [("c", "d")], ["d"])])

    def test_a_halted_one_is_steered_again(self):
        floor = floor_of(("a", 0, 0, (0, 0)), ("b", 3, 0, (-1, 0)))
        self.checked_go(floor, (2, 1))
        floor.steer("b", (-1, 0))
        self.assertEqual(halts(self.checked_go(floor, (3, 1))), [((2, 1), [("a", "b")], ["b"])])
        floor.steer("b", (0, 2))
        self.assertEqual(halts(self.checked_go(floor, (4, 1))), [])
        self.assertEqual(floor.shift("b"), (2, 2, 1))
        floor.steer("b", (-1, 0))
        self.assertEqual(halts(self.checked_go(floor, (9, 1))), [])
        self.assertEqual(floor.shift("b"), (-3, 2, 1))

    def test_along_one_another_none_halt(self):
        floor = floor_of(("a", 0, 0, (0, 1)), ("b", 2, 1, (0, -1)), ("c", -2, 0, (0, -3)))
        self.assertEqual(halts(self.checked_go(floor, (99, 1))), [])

    def test_past_a_corner_none_halt(self):
        floor = floor_of(("a", 0, 0, (0, 0)), ("b", 14, -10, (-1, 1)))
        self.assertEqual(halts(self.checked_go(floor, (99, 1))), [])

    def test_one_after_another(self):
        floor = floor_of(("a", 0, 0, (0, 0)), ("b", 10, 0, (-2, 0)), ("c", 20, 0, (-1, 0)), ("d", 40, 9, (0, -1)))
        told = self.checked_go(floor, (40, 1))
        self.assertEqual(halts(told), [((4, 1), [("a", "b")], ["b"]), ((16, 1), [("b", "c")], ["c"])])

    def test_one_that_would_have_been_hit_by_a_halted_one_is_not(self):
        floor = floor_of(("a", 0, 0, (2, 0)), ("b", 6, 0, (0, 0)), ("c", 20, 0, (-1, 0)))
        told = self.checked_go(floor, (40, 1))
        self.assertEqual(halts(told), [((2, 1), [("a", "b")], ["a"]), ((12, 1), [("b", "c")], ["c"])])

    def test_great_numbers(self):
        floor = floor_of(("a", -GREAT, 0, (GREAT, 0)), ("b", GREAT, 1, (-1, 0)))
        time = as_tuple(Fraction(2 * GREAT - 2, GREAT + 1))
        self.assertEqual(halts(self.checked_go(floor, (GREAT, 1))), [(time, [("a", "b")], ["a", "b"])])

    def test_what_was_told_may_be_handed_in_again(self):
        floor = floor_of(("a", -GREAT, 0, (GREAT, 0)), ("b", GREAT, 1, (1 - GREAT, 3)), ("c", 0, GREAT, (7, -GREAT)))
        end = floor.settle()[-1][0]
        self.assertEqual(floor.clock(), end)
        self.assertEqual(len(self.checked_go(floor, end)), 1)

    def test_lists_are_the_askers_own(self):
        floor = floor_of(("a", 0, 0, (1, 0)), ("b", 5, 0, (-1, 0)))
        told = floor.go((9, 1))
        before = state(floor)
        for stretch in told:
            for own in stretch[2:]:
                own.clear()
        told.clear()
        self.assertEqual(state(floor), before)
        self.assertEqual(len(self.checked_go(floor, (10, 1))[0][2]), 1)

    def test_at_once_or_in_pieces(self):
        rng = random.Random(30)
        for again in range(12):
            rows = drawn_rows(rng, 5)
            whole = drawn_floor(rows)
            told = whole.go((12, 1))
            for pieces in (((3, 1), (12, 1)), ((1, 2), (4, 3), (4, 3), (7, 1), (12, 1)),
                           tuple(stretch[1] for stretch in told)):
                floor = drawn_floor(rows)
                collected = []
                for time in pieces:
                    collected.extend(halts(floor.go(time)))
                self.assertEqual(collected, halts(told))
                self.assertEqual(state(floor), state(whole))


class SettleTest(FloorCase):
    def test_nothing_that_clashes(self):
        self.assertEqual(Floor().settle(), [((0, 1), None, [], [], [])])
        floor = floor_of(("a", 0, 0, (-1, 0)), ("b", 5, 0, (1, 0)), ("c", 0, 5, (0, 0)))
        floor.go((1, 2))
        before = state(floor)
        told = self.checked_settle(floor)
        self.assertEqual(len(told), 1)
        self.assertEqual(told[0][:2], ((1, 2), None))
        self.assertEqual(state(floor), before)

    def test_one_behind_the_other(self):
        floor = floor_of(("a", 0, 0, (0, 0)), ("b", 3, 0, (-1, 0)), ("c", 10, 0, (-2, 0)), ("d", 30, 0, (-3, 0)),
                         ("e", 0, 30, (5, 5)))
        told = self.checked_settle(floor)
        self.assertEqual(halts(told), [
            ((1, 1), [("a", "b")], ["b"]), ((3, 1), [("b", "c")], ["c"]), ((8, 1), [("c", "d")], ["d"])])
        self.assertEqual(floor.clock(), (8, 1))
        self.assertEqual(told[-1][:2], ((8, 1), None))

    def test_then_every_meeting_is_a_line_for_ever(self):
        rng = random.Random(31)
        for again in range(12):
            floor = drawn_floor(drawn_rows(rng, 6))
            told = self.checked_settle(floor)
            self.assertEqual(floor.clock(), told[-1][0])
            self.no_two_overlap(floor)
            for one, other in itertools.permutations(floor.names(), 2):
                paper = floor.meet(one, other)
                self.assertIs(type(paper), Line)
                self.assertIsNone(paper.told()[1])
            before = state(floor)
            self.assertEqual(len(self.checked_settle(floor)), 1)
            self.assertEqual(state(floor), before)

    def test_as_by_going(self):
        rng = random.Random(32)
        for again in range(12):
            rows = drawn_rows(rng, 5)
            one = drawn_floor(rows)
            other = drawn_floor(rows)
            settled = one.settle()
            time = as_tuple(Fraction(*one.clock()) + 1)
            gone = other.go(time)
            self.assertEqual(halts(gone), halts(settled))
            self.assertEqual(gone[:-1], settled[:-1])
            one.go(time)
            self.assertEqual(state(one), state(other))

    def test_twenty_bodies(self):
        floor = Floor()
        for k, letter in enumerate("abcdefghijklmnopqrst"):
            floor.put(letter, SQUARE, (3 * k, k % 2), (0, 0) if k == 0 else (-1, 0))
        told = floor.settle()
        self.assertEqual([stretch[4] for stretch in told], [[letter] for letter in "bcdefghijklmnopqrst"] + [[]])
        self.assertEqual(floor.clock(), (19, 1))
        self.no_two_overlap(floor)

    def test_lists_are_the_askers_own(self):
        floor = floor_of(("a", 0, 0, (1, 0)), ("b", 5, 0, (-1, 0)))
        for stretch in floor.settle():
            for own in stretch[2:]:
                own.clear()
        self.assertEqual(len(floor.settle()[0][2]), 1)


class MeetTest(FloorCase):
    def check(self, floor, one, other):
        D = way_from(floor.shift(one), floor.shift(other))
        first = floor.speed(one)
        second = floor.speed(other)
        V = (second[0] - first[0], second[1] - first[1])
        paper = floor.meet(one, other)
        self.assertIs(paper.holds(floor.body(one), floor.body(other), D, V), True)
        expected = clash_by_times(floor.body(one), floor.body(other), D, V)
        if expected is None:
            self.assertIs(type(paper), Line)
            self.assertIsNone(paper.told()[1])
        else:
            self.assertIs(type(paper), Clash)
            self.assertEqual(paper.told()[0], as_tuple(expected))

    def test_seen_from_the_first(self):
        floor = floor_of(("a", 0, 0, (1, 0)), ("b", 5, 0, (-1, 0)), ("c", 0, 9, (2, 2)))
        before = state(floor)
        for one, other in itertools.permutations("abc", 2):
            self.check(floor, one, other)
        self.assertEqual(state(floor), before)
        self.assertGreater(floor.meet("a", "b").told()[1][0], 0)
        self.assertLess(floor.meet("b", "a").told()[1][0], 0)

    def test_from_now_on(self):
        floor = floor_of(("a", 0, 0, (1, 0)), ("b", 5, 0, (-1, 0)))
        self.assertEqual(floor.meet("a", "b").told()[0], (3, 2))
        floor.go((1, 1))
        self.assertEqual(floor.meet("a", "b").told()[0], (1, 2))
        floor.go((3, 2))
        self.assertEqual(floor.meet("b", "a").told()[0], (0, 1))
        floor.go((2, 1))
        self.assertIs(floor.meet("a", "b").is_clash(), False)

    def test_drawn(self):
        rng = random.Random(33)
        for again in range(10):
            floor = drawn_floor(drawn_rows(rng, 5))
            floor.go((1, 3))
            for one, other in itertools.permutations(floor.names(), 2):
                self.check(floor, one, other)


def drawn_rows(rng, count):
    """Names, points, shifts and speeds; each glides somewhat towards the middle."""
    rows = []
    for name in "abcdefghij"[:count]:
        x = rng.randint(-14, 14)
        y = rng.randint(-14, 14)
        V = (-x // 4 + rng.randint(-1, 1), -y // 4 + rng.randint(-1, 1)) if rng.random() < 0.8 else (0, 0)
        rows.append((name, drawn_body(rng, 3, 4), (x, y), V))
    return rows


def drawn_floor(rows):
    floor = Floor()
    for row in rows:
        try:
            floor.put(*row)
        except Crowded:
            continue
    return floor


class CourseTest(FloorCase):
    """A long course of drawn deeds."""

    def test_no_two_ever_overlap(self):
        counted = {}
        for seed in range(12):
            rng = random.Random(seed)
            floor = Floor()
            for again in range(40):
                name = self.deed(floor, rng)
                counted[name] = counted.get(name, 0) + 1
                self.no_two_overlap(floor)
        self.assertEqual(sorted(counted), [
            "crowded", "go", "no name", "past", "put", "settle", "steer", "take", "twice"])

    def deed(self, floor, rng):
        name = rng.choice("abcdefg")
        before = state(floor)
        draw = rng.random()
        if draw < 0.45:
            return self.put(floor, rng, name, before)
        if draw < 0.55:
            return self.of_a_name(floor, before, name, "take", floor.take, name)
        if draw < 0.75:
            V = (rng.randint(-3, 3), rng.randint(-3, 3))
            return self.of_a_name(floor, before, name, "steer", floor.steer, name, V)
        if draw < 0.95:
            return self.go(floor, rng, before)
        self.checked_settle(floor)
        return "settle"

    def put(self, floor, rng, name, before):
        rows = drawn_rows(rng, 1)
        row = (name,) + rows[0][1:]
        try:
            floor.put(*row)
        except (Crowded, Twice) as refusal:
            self.assertEqual(state(floor), before)
            return type(refusal).__name__.lower()
        self.assertEqual((floor.body(name), floor.speed(name)), (row[1], row[3]))
        return "put"

    def of_a_name(self, floor, before, name, told, deed, *arguments):
        if name in floor.names():
            deed(*arguments)
            return told
        with self.assertRaises(NoName):
            deed(*arguments)
        self.assertEqual(state(floor), before)
        return "no name"

    def go(self, floor, rng, before):
        time = as_tuple(Fraction(*floor.clock()) + Fraction(rng.randint(-1, 8), rng.randint(1, 3)))
        if Fraction(*time) < Fraction(*floor.clock()):
            with self.assertRaises(Past):
                floor.go(time)
            self.assertEqual(state(floor), before)
            return "past"
        self.checked_go(floor, time)
        return "go"


if __name__ == "__main__":
    unittest.main()
