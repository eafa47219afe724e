import unittest

from glide.bodies import normals
from glide.gaps import gap
from glide.lines import directions, line
from samples import (
    BODIES, DIAMOND, GREAT, HEXAGON, MIDDLE, NEEDLE, SQUARE, TRIANGLE, VAST, back, drawn_pairs, overlap_by_area,
)


class DirectionsTest(unittest.TestCase):
    def test_ordinary(self):
        self.assertEqual(
            directions(TRIANGLE, SQUARE),
            [(0, -4), (4, 4), (-4, 0), (0, 2), (-2, 0), (0, -2), (2, 0)],
        )

    def test_the_ones_then_the_others_turned_about(self):
        for ones in BODIES:
            for others in BODIES:
                told = directions(ones, others)
                self.assertEqual(len(told), len(ones) + len(others))
                self.assertEqual(told[:len(ones)], normals(ones))
                self.assertEqual(told[len(ones):], [(-a, -b) for a, b in normals(others)])


class LineTest(unittest.TestCase):
    def parted(self, ones, others, D):
        for first, second, way in ((ones, others, D), (others, ones, back(D))):
            told = line(first, second, way)
            self.assertIs(type(told), tuple)
            self.assertNotEqual(told, (0, 0))
            self.assertGreaterEqual(gap(first, second, way, told)[0], 0)

    def not_parted(self, ones, others, D):
        self.assertIsNone(line(ones, others, D))
        self.assertIsNone(line(others, ones, back(D)))

    def test_apart(self):
        for D in ((5, 0, 1), (-5, 0, 1), (0, 5, 1), (0, -5, 1), (9, 9, 1), (-9, -7, 2), (GREAT, -GREAT, 1)):
            self.parted(SQUARE, SQUARE, D)
        self.parted(TRIANGLE, SQUARE, (3, 2, 1))
        self.parted(TRIANGLE, SQUARE, (5, 4, 2))

    def test_parted_by_a_slanting_direction_alone(self):
        self.parted(SQUARE, TRIANGLE, (-3, -1, 1))
        self.parted(SQUARE, TRIANGLE, (-3, -3, 1))
        self.parted(TRIANGLE, SQUARE, (3, 3, 1))

    def test_touching_at_a_corner(self):
        self.parted(SQUARE, SQUARE, (2, 2, 1))
        self.parted(SQUARE, SQUARE, (-2, 2, 1))
        self.parted(SQUARE, DIAMOND, (4, 1, 1))
        self.parted(DIAMOND, DIAMOND, (4, 0, 1))

    def test_sharing_part_of_a_side(self):
        self.parted(SQUARE, SQUARE, (2, 1, 1))
        self.parted(SQUARE, SQUARE, (1, 6, 3))
        self.parted(SQUARE, SQUARE, (-1, -4, 2))
        self.parted(DIAMOND, DIAMOND, (5, 3, 2))
        self.parted(SQUARE, TRIANGLE, (2, -1, 1))

    def test_overlapping_by_little(self):
        self.not_parted(SQUARE, SQUARE, (2 * GREAT - 1, 0, GREAT))
        self.not_parted(SQUARE, SQUARE, (2 * GREAT - 1, 2 * GREAT - 1, GREAT))
        self.not_parted(DIAMOND, DIAMOND, (4 * GREAT - 1, 0, GREAT))
        self.parted(SQUARE, SQUARE, (2 * GREAT + 1, 0, GREAT))
        self.not_parted(TRIANGLE, SQUARE, (4 * GREAT - 1, 0, 2 * GREAT))

    def test_one_within_the_other(self):
        self.not_parted(HEXAGON, SQUARE, (-1, -1, 2))
        self.not_parted(VAST, NEEDLE, (1, 1, 7))
        self.not_parted(VAST, SQUARE, (-GREAT, -GREAT, 1))

    def test_one_upon_itself(self):
        for corners in BODIES + (VAST,):
            self.not_parted(corners, corners, MIDDLE)

    def test_none_just_where_they_overlap(self):
        counted = {True: 0, False: 0}
        for ones, others, D in drawn_pairs(13, 500):
            overlapping = overlap_by_area(ones, others, D)
            counted[overlapping] += 1
            if overlapping:
                self.not_parted(ones, others, D)
            else:
                self.parted(ones, others, D)
        self.assertGreater(min(counted.values()), 100)

    def test_all_shifts_on_a_grid(self):
        for ones in (SQUARE, TRIANGLE, HEXAGON):
            for others in (SQUARE, DIAMOND, NEEDLE):
                for x in range(-6, 7):
                    for y in range(-6, 7):
                        if overlap_by_area(ones, others, (x, y, 1)):
                            self.not_parted(ones, others, (x, y, 1))
                        else:
                            self.parted(ones, others, (x, y, 1))


class NothingKeptTest(unittest.TestCase):
    def test_what_is_handed_in_stays_and_what_is_told_is_the_askers_own(self):
        ones = list(SQUARE)
        others = list(TRIANGLE)
        told = directions(ones, others)
        line(ones, others, (9, 9, 2))
        self.assertEqual((ones, others), (SQUARE, TRIANGLE))
        self.assertIs(type(told), list)
        ones.clear()
        others.clear()
        self.assertEqual(told, directions(SQUARE, TRIANGLE))
        told.clear()
        self.assertEqual(len(directions(SQUARE, TRIANGLE)), 7)

    def test_names_of_the_arguments(self):
        self.assertEqual(len(directions(ones=SQUARE, others=TRIANGLE)), 7)
        self.assertIsNone(line(ones=SQUARE, others=SQUARE, D=MIDDLE))


if __name__ == "__main__":
    unittest.main()
