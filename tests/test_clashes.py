import unittest
from fractions import Fraction

from glide.clashes import clash, line_up_to
from glide.errors import Crowded
from glide.gaps import gap
from glide.hulls import hull
from glide.shared import overlap
from samples import (
    BODIES, COURSES, GREAT, HEXAGON, MIDDLE, NEEDLE, SQUARE, TRIANGLE, VAST, as_tuple, at_time, back, clash_by_times,
    drawn_courses, drawn_pairs, overlap_by_area, turned,
)


class ClashTest(unittest.TestCase):
    def test_told_ones(self):
        for name, ones, others, D, V, expected in COURSES:
            with self.subTest(name=name):
                self.assertEqual(clash(ones, others, D, V), expected)
                self.assertEqual(clash(others, ones, back(D), turned(V)), expected)

    def test_overlap_behind_it_and_not_up_to_it(self):
        for name, ones, others, D, V, expected in COURSES:
            if expected is not None:
                with self.subTest(name=name):
                    t = Fraction(*expected)
                    little = Fraction(1, GREAT ** 3)
                    for part in (Fraction(0), Fraction(1, 3), Fraction(1)):
                        self.assertIs(overlap(ones, others, at_time(D, V, t * part)), False)
                    self.assertIs(overlap(ones, others, at_time(D, V, t + little)), True)

    def test_crowded_where_they_overlap_now_and_only_there(self):
        counted = {True: 0, False: 0}
        for ones, others, D in drawn_pairs(20, 300, 4):
            overlapping = overlap_by_area(ones, others, D)
            counted[overlapping] += 1
            for V in ((0, 0), (1, 0), (-2, 3), (GREAT, 1)):
                if overlapping:
                    with self.assertRaises(Crowded):
                        clash(ones, others, D, V)
                else:
                    clash(ones, others, D, V)
        self.assertGreater(min(counted.values()), 50)

    def test_crowded_upon_itself_and_by_little(self):
        for corners in BODIES + (VAST,):
            for V in ((0, 0), (5, 0), (0, -GREAT)):
                with self.assertRaises(Crowded):
                    clash(corners, corners, MIDDLE, V)
        with self.assertRaises(Crowded):
            clash(SQUARE, SQUARE, (2 * GREAT - 1, 0, GREAT), (1, 0))

    def test_speed_of_0(self):
        for ones, others, D, V in drawn_courses(21, 60):
            self.assertIsNone(clash(ones, others, D, (0, 0)))

    def test_drawn(self):
        counted = {}
        for ones, others, D, V in drawn_courses(22, 500):
            expected = clash_by_times(ones, others, D, V)
            told = clash(ones, others, D, V)
            self.assertEqual(clash(others, ones, back(D), turned(V)), told)
            if expected is None:
                self.assertIsNone(told)
                kind = "never"
            else:
                self.assertIs(type(told), tuple)
                self.assertEqual(told, as_tuple(expected))
                kind = "now" if told == (0, 1) else "whole" if told[1] == 1 else "between"
            counted[kind] = counted.get(kind, 0) + 1
        self.assertEqual(sorted(counted), ["between", "never", "now", "whole"])

    def test_many_times_as_fast_as_many_times_sooner(self):
        for ones, others, D, V in drawn_courses(23, 100):
            told = clash(ones, others, D, V)
            for many in (2, 7, GREAT):
                sooner = clash(ones, others, D, (V[0] * many, V[1] * many))
                if told is None:
                    self.assertIsNone(sooner)
                else:
                    self.assertEqual(sooner, as_tuple(Fraction(*told) / many))

    def test_many_corners(self):
        bowl = hull([(k, k * k) for k in range(-20, 20)])
        self.assertEqual(clash(bowl, bowl, (0, -1000, 1), (0, 3)), (620, 3))
        self.assertIsNone(clash(bowl, bowl, (39, 0, 1), (0, 3)))
        self.assertEqual(clash(bowl, bowl, (39, 0, 1), (-1, 0)), (1, 1))


class LineUpToTest(unittest.TestCase):
    def parted(self, ones, others, D, V, t):
        for first, second, S, speed in ((ones, others, D, V), (others, ones, back(D), turned(V))):
            n = line_up_to(first, second, S, speed, t)
            self.assertIs(type(n), tuple)
            self.assertNotEqual(n, (0, 0))
            self.assertGreaterEqual(gap(first, second, S, n)[0], 0)
            if t is None:
                self.assertGreaterEqual(n[0] * speed[0] + n[1] * speed[1], 0)
            else:
                self.assertGreaterEqual(gap(first, second, at_time(S, speed, Fraction(*t)), n)[0], 0)

    def not_parted(self, ones, others, D, V, t):
        self.assertIsNone(line_up_to(ones, others, D, V, t))
        self.assertIsNone(line_up_to(others, ones, back(D), turned(V), t))

    def check(self, ones, others, D, V, told):
        if told is None:
            for t in ((0, 1), (1, 2), (7, 1), (GREAT, 1), None):
                self.parted(ones, others, D, V, t)
        else:
            t = Fraction(*told)
            for part in (Fraction(0), Fraction(1, 3), Fraction(1)):
                self.parted(ones, others, D, V, as_tuple(t * part))
            for behind in (Fraction(1, GREAT), Fraction(1, 7), Fraction(100), Fraction(GREAT)):
                self.not_parted(ones, others, D, V, as_tuple(t + behind))
            self.not_parted(ones, others, D, V, None)

    def test_told_ones(self):
        for name, ones, others, D, V, expected in COURSES:
            with self.subTest(name=name):
                self.check(ones, others, D, V, expected)

    def test_drawn(self):
        for ones, others, D, V in drawn_courses(24, 300):
            self.check(ones, others, D, V, clash(ones, others, D, V))

    def test_parted_by_the_way_alone(self):
        # The others glide close by at a corner: no normal of the two parts them from begin to end.
        self.parted(SQUARE, SQUARE, (14, -10, 1), (-1, 1), None)
        self.parted(SQUARE, SQUARE, (14, -10, 1), (-1, 1), (24, 1))
        self.parted(SQUARE, SQUARE, (-10, 14, 1), (1, -1), None)

    def test_time_of_0(self):
        self.parted(SQUARE, SQUARE, (2, 1, 1), (-1, 0), (0, 1))
        self.parted(SQUARE, SQUARE, (2, 1, 1), (0, 0), (0, 1))
        self.not_parted(SQUARE, SQUARE, (1, 1, 1), (0, 0), (0, 1))

    def test_none_where_they_overlap_now(self):
        for V in ((0, 0), (1, 0), (5, -3), (GREAT, GREAT)):
            for t in ((0, 1), (1, 2), (9, 1), None):
                self.not_parted(SQUARE, SQUARE, (1, 1, 1), V, t)
                self.not_parted(HEXAGON, NEEDLE, MIDDLE, V, t)

    def test_none_where_they_overlap_between(self):
        self.not_parted(SQUARE, SQUARE, (3, 0, 1), (-100, 0), (1, 1))
        self.not_parted(SQUARE, SQUARE, (3, 3, 1), (-1, -1), (6, 1))


class NothingKeptTest(unittest.TestCase):
    def test_what_is_handed_in_stays(self):
        ones = list(SQUARE)
        others = list(TRIANGLE)
        clash(ones, others, (9, 1, 2), (-1, 0))
        line_up_to(ones, others, (9, 1, 2), (-1, 0), (1, 2))
        line_up_to(ones, others, (9, 1, 2), (-1, 0), None)
        self.assertEqual((ones, others), (SQUARE, TRIANGLE))

    def test_names_of_the_arguments(self):
        self.assertEqual(clash(ones=SQUARE, others=SQUARE, D=(5, 0, 1), V=(-1, 0)), (3, 1))
        self.assertIsNone(line_up_to(ones=SQUARE, others=SQUARE, D=(5, 0, 1), V=(-1, 0), t=None))


if __name__ == "__main__":
    unittest.main()
