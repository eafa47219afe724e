import unittest

from glide.clashes import clash
from glide.errors import Crowded
from glide.papers import Clash, Line, Paper, meeting
from samples import BODIES, COURSES, GREAT, HEXAGON, MIDDLE, NEEDLE, SQUARE, TRIANGLE, back, drawn_courses, turned

# The others glide towards the ones from the right: they touch from (2, 0) to (2, 2) at the time 3.
D = (5, 0, 1)
V = (-1, 0)


class ToldTest(unittest.TestCase):
    def test_plain_paper(self):
        paper = Paper()
        self.assertEqual(paper.told(), ())
        self.assertIs(paper.is_clash(), False)
        self.assertIs(paper.holds(SQUARE, SQUARE, D, V), False)
        self.assertIs(paper.holds(SQUARE, SQUARE, D, (0, 0)), False)

    def test_line(self):
        self.assertEqual(Line((1, 2), (3, 4)).told(), ((1, 2), (3, 4)))
        self.assertEqual(Line((1, 2), None).told(), ((1, 2), None))
        self.assertIs(Line((1, 2), None).is_clash(), False)

    def test_clash(self):
        paper = Clash((3, 1), (1, 0), (2, 1, 1), (4, 1), (3, 3, 2))
        self.assertEqual(paper.told(), ((3, 1), (1, 0), (2, 1, 1), (4, 1), (3, 3, 2)))
        self.assertIs(paper.is_clash(), True)

    def test_what_does_not_hold_is_told_as_well(self):
        self.assertEqual(Line((0, 0), (-3, 4)).told(), ((0, 0), (-3, 4)))
        self.assertEqual(Clash((-3, 1), (0, 0), MIDDLE, (-4, 1), MIDDLE).told(),
                         ((-3, 1), (0, 0), MIDDLE, (-4, 1), MIDDLE))

    def test_kinds(self):
        self.assertEqual(Line.__bases__, (Paper,))
        self.assertEqual(Clash.__bases__, (Paper,))

    def test_each_keeps_its_own(self):
        one = Line((1, 2), (3, 4))
        other = Line((5, 6), None)
        self.assertEqual(one.told(), ((1, 2), (3, 4)))
        self.assertEqual(other.told(), ((5, 6), None))

    def test_names_of_the_arguments(self):
        self.assertEqual(Line(n=(1, 2), t=None).told(), ((1, 2), None))
        paper = Clash(t=(3, 1), n=(1, 0), P=(2, 1, 1), later=(4, 1), Q=(3, 3, 2))
        self.assertIs(paper.holds(ones=SQUARE, others=SQUARE, D=D, V=V), True)
        self.assertIs(meeting(ones=SQUARE, others=SQUARE, D=D, V=V).is_clash(), True)


class LineHoldsTest(unittest.TestCase):
    def check(self, n, t, expected, shift=D, speed=V):
        self.assertIs(Line(n, t).holds(SQUARE, SQUARE, shift, speed), expected)

    def test_holds_up_to_the_touch(self):
        for t in ((0, 1), (1, 2), (3, 1)):
            self.check((1, 0), t, True)
            self.check((7, 0), t, True)
            self.check((5, 1), (0, 1), True)

    def test_does_not_hold_behind_it(self):
        for t in ((3 * GREAT + 1, GREAT), (7, 2), (4, 1), (8, 1), (GREAT, 1), None):
            self.check((1, 0), t, False)

    def test_no_direction(self):
        for t in ((0, 1), (1, 1), None):
            self.check((0, 0), t, False)
            self.check((0, 0), t, False, D, (1, 0))

    def test_time_below_0(self):
        for t in ((-1, 1), (-1, GREAT), (-3, 2)):
            self.check((1, 0), t, False)
            self.check((1, 0), t, False, D, (0, 0))

    def test_gap_below_0_now(self):
        self.check((-1, 0), (0, 1), False)
        self.check((-1, 0), (1, 1), False)
        # It would part them then, and for ever from then on, but not now.
        self.check((-1, 0), (7, 1), False)
        self.check((-1, 0), None, False)
        self.check((0, 1), None, False, (5, 0, 1), (0, 1))
        self.check((1, 0), (0, 1), False, (1, 1, 1), (1, 0))

    def test_gap_below_0_then(self):
        self.check((1, 1), (3, 1), False)
        self.check((1, 0), (100, 1), False)

    def test_for_ever(self):
        self.check((1, 0), None, True, D, (1, 0))
        self.check((1, 0), None, True, D, (0, 0))
        self.check((1, 0), None, True, D, (0, 9))
        self.check((1, 0), None, True, (2, 1, 1), (0, 9))
        self.check((1, 0), None, False, D, (-1, 9))
        self.check((1, 0), None, False, (GREAT, 0, 1), (-1, 0))
        self.check((GREAT, -1), None, True, D, (1, GREAT))
        self.check((GREAT, -1), None, False, D, (1, GREAT + 1))


class ClashHoldsTest(unittest.TestCase):
    def check(self, expected, t=(3, 1), n=(1, 0), P=(2, 1, 1), later=(4, 1), Q=(3, 3, 2), shift=D, speed=V):
        paper = Clash(t, n, P, later, Q)
        self.assertIs(paper.holds(SQUARE, SQUARE, shift, speed), expected)

    def test_holds(self):
        self.check(True)
        self.check(True, P=(2, 0, 1))
        self.check(True, P=(2, 2, 1))
        self.check(True, P=(6, 5, 3))
        self.check(True, n=(9, 0))
        self.check(True, later=(5, 1), Q=(1, 1, 1))
        self.check(True, later=(6, 1), Q=(1, 1, 2))
        self.check(True, later=(3 * GREAT + 1, GREAT), Q=(4 * GREAT - 1, 1, 2 * GREAT))

    def test_wrong_time(self):
        self.check(False, t=(5, 2), P=(9, 4, 4))
        self.check(False, t=(5, 2))
        self.check(False, t=(7, 2))
        self.check(False, t=(3 * GREAT + 1, GREAT))
        self.check(False, t=(3 * GREAT - 1, GREAT))
        self.check(False, t=(-3, 1))
        self.check(False, t=(-1, 1), P=(2, 1, 1), later=(1, 1), Q=(1, 1, 1), shift=(1, 0, 1))
        self.check(False, t=(0, 1), P=(2, 1, 1))

    def test_wrong_direction(self):
        for n in ((0, 0), (-1, 0), (0, 1), (0, -1), (1, 1), (GREAT, 1), (2, -1)):
            self.check(False, n=n)

    def test_wrong_spot_of_touch(self):
        for P in ((1, 1, 1), (3, 1, 1), (2, 3, 1), (2, -1, 1), (2 * GREAT + 1, GREAT, GREAT), (2, 2 * GREAT + 1, GREAT)):
            self.check(False, P=P)
        self.check(False, P=(2 * GREAT - 1, GREAT, GREAT))

    def test_wrong_later_time(self):
        self.check(False, later=(3, 1))
        self.check(False, later=(3, 1), Q=(2, 1, 1))
        self.check(False, later=(2, 1))
        self.check(False, later=(0, 1))
        self.check(False, later=(-4, 1))
        self.check(False, later=(7, 1))
        self.check(False, later=(8, 1), Q=(-1, 1, 2))

    def test_later_time_not_above_though_they_overlap_then(self):
        # Gliding the other way round they overlapped before: a line up to a time of touch, a spot within earlier.
        self.check(False, t=(3, 1), n=(1, 0), P=(2, 1, 1), later=(-1, 1), Q=(3, 3, 2), shift=(-1, 0, 1), speed=(1, 0))
        self.check(False, t=(0, 1), n=(1, 0), P=(2, 1, 1), later=(-1, 1), Q=(3, 3, 2), shift=(2, 0, 1), speed=(1, 0))

    def test_wrong_inner_spot(self):
        # Both have just the spots from 1 to 2 to the right and from 0 to 2 above at the time 4.
        for Q in ((1, 1, 1), (2, 1, 1), (3, 0, 2), (3, 4, 2), (1, 0, 1), (2, 2, 1)):
            self.check(False, Q=Q)
        for Q in ((1, 1, 2), (5, 2, 2), (3, 5, 2), (3, -1, 2), (100, 1, 1)):
            self.check(False, Q=Q)

    def test_of_other_bodies_it_does_not_hold(self):
        paper = Clash((3, 1), (1, 0), (2, 1, 1), (4, 1), (3, 3, 2))
        self.assertIs(paper.holds(SQUARE, SQUARE, (6, 0, 1), V), False)
        self.assertIs(paper.holds(SQUARE, SQUARE, (4, 0, 1), V), False)
        self.assertIs(paper.holds(SQUARE, SQUARE, D, (1, 0)), False)
        self.assertIs(paper.holds(SQUARE, SQUARE, D, (0, 0)), False)
        self.assertIs(paper.holds(HEXAGON, SQUARE, D, V), False)
        self.assertIs(paper.holds(SQUARE, SQUARE, (1, 0, 1), V), False)

    def test_time_of_0(self):
        self.check(True, t=(0, 1), P=(2, 1, 1), later=(1, 1), Q=(3, 3, 2), shift=(2, 0, 1))


class MeetingTest(unittest.TestCase):
    def check(self, ones, others, shift, speed, expected):
        paper = meeting(ones, others, shift, speed)
        self.assertIs(type(paper), Line if expected is None else Clash)
        self.assertIs(paper.is_clash(), expected is not None)
        self.assertIs(paper.holds(ones, others, shift, speed), True)
        told = paper.told()
        if expected is None:
            self.assertEqual(len(told), 2)
            self.assertIsNone(told[1])
        else:
            self.assertEqual(len(told), 5)
            self.assertEqual(told[0], expected)

    def both_ways(self, ones, others, shift, speed, expected):
        self.check(ones, others, shift, speed, expected)
        self.check(others, ones, back(shift), turned(speed), expected)

    def test_told_ones(self):
        for name, ones, others, shift, speed, expected in COURSES:
            with self.subTest(name=name):
                self.both_ways(ones, others, shift, speed, expected)

    def test_drawn(self):
        for ones, others, shift, speed in drawn_courses(25, 200) + drawn_courses(26, 20, GREAT):
            self.both_ways(ones, others, shift, speed, clash(ones, others, shift, speed))

    def test_great_numbers_meet_within_what_is_promised(self):
        found = [course for course in drawn_courses(27, 60, GREAT // 10) if clash(*course) is not None]
        self.assertNotEqual(found, [])
        for course in found:
            for part in meeting(*course).told():
                self.assertLess(max(abs(number) for number in part), 10 ** 4000)

    def test_crowded_where_they_overlap_now(self):
        for speed in ((0, 0), (1, 0), (-3, 5)):
            with self.assertRaises(Crowded):
                meeting(SQUARE, SQUARE, (1, 1, 1), speed)
            with self.assertRaises(Crowded):
                meeting(HEXAGON, NEEDLE, MIDDLE, speed)
            for corners in BODIES:
                with self.assertRaises(Crowded):
                    meeting(corners, corners, MIDDLE, speed)

    def test_what_is_handed_in_stays_and_nothing_of_it_is_kept(self):
        ones = list(SQUARE)
        others = list(TRIANGLE)
        paper = meeting(ones, others, (9, 1, 2), V)
        before = paper.told()
        paper.holds(ones, others, (9, 1, 2), V)
        self.assertEqual((ones, others), (SQUARE, TRIANGLE))
        ones.clear()
        others.clear()
        self.assertEqual(paper.told(), before)
        self.assertIs(paper.holds(SQUARE, TRIANGLE, (9, 1, 2), V), True)


if __name__ == "__main__":
    unittest.main()
