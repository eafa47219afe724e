import unittest
from fractions import Fraction

from glide.gaps import along, gap, least, most, parts
from samples import BODIES, DIAMOND, GREAT, HEXAGON, MIDDLE, SQUARE, TRIANGLE, VAST, back, drawn_pairs, moved, turned

DIRECTIONS = ((0, 0), (1, 0), (0, 1), (-1, 0), (0, -1), (3, 2), (-2, 5), (-1, -1), (GREAT, 1 - GREAT))


class AlongTest(unittest.TestCase):
    def test_ordinary(self):
        self.assertEqual(along((2, 3), (5, 7)), 31)
        self.assertEqual(along((2, 3), (-5, 7)), 11)
        self.assertEqual(along((-2, 3), (5, -7)), -31)

    def test_middle_and_no_direction(self):
        for n in DIRECTIONS:
            self.assertEqual(along((0, 0), n), 0)
            self.assertEqual(along((GREAT, -7), (0, 0)), 0)

    def test_great_numbers(self):
        self.assertEqual(along((GREAT, -GREAT), (GREAT, GREAT)), 0)
        self.assertEqual(along((GREAT, 1), (GREAT, -1)), GREAT * GREAT - 1)


class LeastAndMostTest(unittest.TestCase):
    def test_ordinary(self):
        self.assertEqual((least(TRIANGLE, (1, 0)), most(TRIANGLE, (1, 0))), (0, 4))
        self.assertEqual((least(TRIANGLE, (-1, -2)), most(TRIANGLE, (-1, -2))), (-8, 0))
        self.assertEqual((least(HEXAGON, (3, 1)), most(HEXAGON, (3, 1))), (-9, 9))

    def test_several_corners_equally_far(self):
        self.assertEqual((least(TRIANGLE, (1, 1)), most(TRIANGLE, (1, 1))), (0, 4))
        self.assertEqual((least(SQUARE, (0, 3)), most(SQUARE, (0, 3))), (0, 6))
        self.assertEqual((least(DIAMOND, (1, 1)), most(DIAMOND, (1, 1))), (-2, 2))

    def test_no_direction(self):
        for corners in BODIES:
            self.assertEqual((least(corners, (0, 0)), most(corners, (0, 0))), (0, 0))

    def test_great_numbers(self):
        self.assertEqual(most(VAST, (GREAT, GREAT)), GREAT * (2 * GREAT - 1))
        self.assertEqual(least(VAST, (GREAT, GREAT)), -2 * GREAT * GREAT)

    def test_each_the_others_turned_about(self):
        for corners in BODIES + (VAST,):
            for n in DIRECTIONS:
                lengths = [x * n[0] + y * n[1] for x, y in corners]
                self.assertEqual(least(corners, n), min(lengths))
                self.assertEqual(most(corners, n), max(lengths))
                self.assertEqual(least(corners, n), -most(corners, turned(n)))


class GapTest(unittest.TestCase):
    def test_above_0(self):
        self.assertEqual(gap(SQUARE, SQUARE, (5, 0, 1), (1, 0)), (3, 1))
        self.assertEqual(gap(SQUARE, SQUARE, (5, 0, 1), (2, 0)), (6, 1))
        self.assertEqual(gap(SQUARE, SQUARE, (-5, 0, 1), (-1, 0)), (3, 1))

    def test_touching_at_a_corner_and_along_a_side(self):
        self.assertEqual(gap(SQUARE, SQUARE, (2, 2, 1), (1, 0)), (0, 1))
        self.assertEqual(gap(SQUARE, SQUARE, (2, 2, 1), (1, 1)), (0, 1))
        self.assertEqual(gap(SQUARE, SQUARE, (2, 1, 1), (1, 0)), (0, 1))
        self.assertEqual(gap(DIAMOND, DIAMOND, (5, 3, 2), (1, 1)), (0, 1))

    def test_below_0(self):
        self.assertEqual(gap(SQUARE, SQUARE, (5, 0, 1), (-1, 0)), (-7, 1))
        self.assertEqual(gap(SQUARE, SQUARE, MIDDLE, (1, 0)), (-2, 1))
        self.assertEqual(gap(SQUARE, SQUARE, (5, 0, 1), (0, 1)), (-2, 1))

    def test_fraction_in_lowest_terms(self):
        self.assertEqual(gap(SQUARE, SQUARE, (5, 1, 2), (1, 0)), (1, 2))
        self.assertEqual(gap(SQUARE, SQUARE, (9, 1, 4), (2, 0)), (1, 2))
        self.assertEqual(gap(SQUARE, SQUARE, (5, 1, 2), (1, 1)), (-1, 1))
        self.assertEqual(gap(SQUARE, SQUARE, (1, -7, 3), (0, 1)), (-13, 3))
        self.assertEqual(gap(SQUARE, TRIANGLE, (1, 1, 6), (4, -2)), (-47, 3))

    def test_no_direction(self):
        for ones in BODIES:
            for others in BODIES:
                self.assertEqual(gap(ones, others, (7, -5, 3), (0, 0)), (0, 1))

    def test_great_numbers(self):
        self.assertEqual(gap(VAST, SQUARE, (GREAT, 0, 1), (1, 0)), (0, 1))
        self.assertEqual(gap(VAST, SQUARE, (GREAT * GREAT - 1, 0, GREAT), (1, 0)), (-1, GREAT))

    def test_seen_the_other_way_round(self):
        for ones, others, D in drawn_pairs(11, 60):
            for n in DIRECTIONS:
                told = gap(ones, others, D, n)
                self.assertEqual(gap(others, ones, back(D), turned(n)), told)

    def test_drawn(self):
        for ones, others, D in drawn_pairs(12, 60):
            for n in DIRECTIONS:
                near = min(x * n[0] + y * n[1] for x, y in moved(others, D))
                far = max(x * n[0] + y * n[1] for x, y in ones)
                expected = Fraction(near - far)
                told = gap(ones, others, D, n)
                self.assertIs(type(told), tuple)
                self.assertEqual(told, (expected.numerator, expected.denominator))


class PartsTest(unittest.TestCase):
    def test_from_0_on(self):
        self.assertIs(parts(SQUARE, SQUARE, (5, 0, 1), (1, 0)), True)
        self.assertIs(parts(SQUARE, SQUARE, (2, 1, 1), (1, 0)), True)
        self.assertIs(parts(SQUARE, SQUARE, (2, 1, 1), (0, 1)), False)
        self.assertIs(parts(SQUARE, SQUARE, (2 * GREAT - 1, 0, GREAT), (1, 0)), False)

    def test_no_direction_parts_none(self):
        self.assertIs(parts(SQUARE, SQUARE, (5, 0, 1), (0, 0)), False)
        self.assertIs(parts(SQUARE, SQUARE, (0, 5, 1), (0, 1)), True)


class NothingKeptTest(unittest.TestCase):
    def test_what_is_handed_in_stays(self):
        ones = list(SQUARE)
        others = list(TRIANGLE)
        gap(ones, others, (1, 2, 3), (3, 4))
        least(ones, (3, 4))
        most(ones, (3, 4))
        self.assertEqual((ones, others), (SQUARE, TRIANGLE))

    def test_names_of_the_arguments(self):
        self.assertEqual(along(point=(1, 2), n=(3, 4)), 11)
        self.assertEqual(least(corners=SQUARE, n=(1, 0)), 0)
        self.assertEqual(most(corners=SQUARE, n=(1, 0)), 2)
        self.assertEqual(gap(ones=SQUARE, others=SQUARE, D=(5, 0, 1), n=(1, 0)), (3, 1))


if __name__ == "__main__":
    unittest.main()
