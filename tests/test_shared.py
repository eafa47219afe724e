import unittest

from glide.bodies import where
from glide.hulls import hull
from glide.lines import line
from glide.shared import inner, overlap, shared
from glide.spots import spot
from samples import (
    BODIES, DIAMOND, GREAT, HEXAGON, MIDDLE, NEEDLE, SQUARE, TRIANGLE, VAST, as_spot, back, common,
    corners_of, drawn_pairs, overlap_by_area,
)

WIDE = [(0, 4), (9, 4), (9, 5), (0, 5)]
TALL = [(4, 0), (5, 0), (5, 9), (4, 9)]
BOX = [(-3, -3), (3, -3), (3, 3), (-3, 3)]
BIG_DIAMOND = [(-4, 0), (0, -4), (4, 0), (0, 4)]

# What it is, two bodies, the others' shift, and what they share.
PAIRS = (
    ("apart", SQUARE, SQUARE, (5, 0, 1), []),
    ("apart, slanting", TRIANGLE, SQUARE, (5, 4, 2), []),
    ("apart, sides on one line", SQUARE, SQUARE, (5, 0, 1), []),
    ("hardly apart", SQUARE, SQUARE, (2 * GREAT + 1, 0, GREAT), []),
    ("corner on corner", SQUARE, SQUARE, (2, 2, 1), [(2, 2, 1)]),
    ("corner on corner, to the left", SQUARE, SQUARE, (-2, 2, 1), [(0, 2, 1)]),
    ("others' corner on a side", SQUARE, DIAMOND, (4, 1, 1), [(2, 1, 1)]),
    ("others' corner on a side, not whole", SQUARE, DIAMOND, (12, 1, 3), [(6, 1, 3)]),
    ("ones' corner on a side", DIAMOND, SQUARE, (-4, -1, 1), [(-2, 0, 1)]),
    ("others' corner on a slanting side", DIAMOND, SQUARE, (1, 1, 1), [(1, 1, 1)]),
    ("sides with a common stretch", SQUARE, SQUARE, (2, 1, 1), [(2, 1, 1), (2, 2, 1)]),
    ("sides with a common stretch, not whole", SQUARE, SQUARE, (1, -4, 2), [(1, 0, 2), (2, 0, 1)]),
    ("a whole side", SQUARE, SQUARE, (2, 0, 1), [(2, 0, 1), (2, 2, 1)]),
    ("a side within a longer one", SQUARE, HEXAGON, (1, -2, 1), [(0, 0, 1), (2, 0, 1)]),
    ("slanting sides", DIAMOND, DIAMOND, (5, 3, 2), [(1, 3, 2), (2, 0, 1)]),
    ("a triangle", SQUARE, TRIANGLE, (-5, -4, 4), [(0, 0, 1), (0, 7, 4), (7, 0, 4)]),
    ("a triangle, cut off", TRIANGLE, SQUARE, (3, 1, 2), [(3, 1, 2), (3, 5, 2), (7, 1, 2)]),
    ("a square", SQUARE, SQUARE, (1, 1, 1), [(1, 1, 1), (1, 2, 1), (2, 1, 1), (2, 2, 1)]),
    ("a cross", WIDE, TALL, MIDDLE, [(4, 4, 1), (4, 5, 1), (5, 4, 1), (5, 5, 1)]),
    ("a slanting cross", NEEDLE, TRIANGLE, MIDDLE, [(0, 3, 11), (0, 1, 2), (7, 5, 3), (41, 23, 16)]),
    ("eight corners", BOX, BIG_DIAMOND, MIDDLE, [
        (-3, -1, 1), (-3, 1, 1), (-1, -3, 1), (-1, 3, 1), (1, -3, 1), (1, 3, 1), (3, -1, 1), (3, 1, 1)]),
    ("sides along one line", SQUARE, SQUARE, (1, 0, 1), [(1, 0, 1), (1, 2, 1), (2, 0, 1), (2, 2, 1)]),
    ("sides along one line, not whole", SQUARE, SQUARE, (1, 0, 3), [(1, 0, 3), (1, 6, 3), (2, 0, 1), (2, 2, 1)]),
    ("others within", HEXAGON, SQUARE, (-1, -1, 1), [(-1, -1, 1), (-1, 1, 1), (1, -1, 1), (1, 1, 1)]),
    ("others within, on the rim", VAST, SQUARE, (-GREAT, -GREAT, 1), [
        (-GREAT, -GREAT, 1), (-GREAT, 2 - GREAT, 1), (2 - GREAT, -GREAT, 1), (2 - GREAT, 2 - GREAT, 1)]),
    ("ones within", SQUARE, VAST, (1, 0, GREAT), [(0, 0, 1), (0, 2, 1), (2, 0, 1), (2, 2, 1)]),
    ("by little", SQUARE, SQUARE, (2 * GREAT - 1, 0, GREAT), [
        (2 * GREAT - 1, 0, GREAT), (2 * GREAT - 1, 2 * GREAT, GREAT), (2, 0, 1), (2, 2, 1)]),
)


class SharedTest(unittest.TestCase):
    def test_told_ones(self):
        for name, ones, others, D, expected in PAIRS:
            with self.subTest(name=name):
                self.assertEqual(shared(ones, others, D), expected)

    def test_one_upon_itself(self):
        for corners in BODIES + (VAST,):
            self.assertEqual(shared(corners, corners, MIDDLE), sorted((x, y, 1) for x, y in corners))

    def test_seen_the_other_way_round_as_many(self):
        for name, ones, others, D, expected in PAIRS:
            with self.subTest(name=name):
                self.assertEqual(len(shared(others, ones, back(D))), len(expected))

    def test_drawn(self):
        counted = {}
        for ones, others, D in drawn_pairs(14, 400) + drawn_pairs(15, 400, 2):
            told = shared(ones, others, D)
            counted[min(len(told), 5)] = True
            self.assertIs(type(told), list)
            self.assertEqual(told, [as_spot(point) for point in corners_of(common(ones, others, D))])
        self.assertEqual(sorted(counted), [0, 1, 2, 3, 4, 5])

    def test_drawn_great_ones(self):
        for ones, others, D in drawn_pairs(16, 20, GREAT):
            told = shared(ones, others, D)
            self.assertEqual(told, [as_spot(point) for point in corners_of(common(ones, others, D))])

    def test_many_corners(self):
        bowl = hull([(k, k * k) for k in range(-20, 20)])
        lid = hull([(k, 400 - k * k) for k in range(-20, 20)])
        told = shared(bowl, lid, (1, 1, 2))
        self.assertEqual(told, [as_spot(point) for point in corners_of(common(bowl, lid, (1, 1, 2)))])
        self.assertGreater(len(told), 40)


class InnerTest(unittest.TestCase):
    def check(self, ones, others, D, overlapping):
        for first, second, way in ((ones, others, D), (others, ones, back(D))):
            told = inner(first, second, way)
            self.assertIs(overlap(first, second, way), overlapping)
            self.assertEqual(line(first, second, way) is None, overlapping)
            if overlapping:
                self.assertEqual(told, spot(*told))
                self.assertEqual(where(first, MIDDLE, told), 1)
                self.assertEqual(where(second, way, told), 1)
            else:
                self.assertIsNone(told)

    def test_told_ones(self):
        for name, ones, others, D, expected in PAIRS:
            with self.subTest(name=name):
                self.check(ones, others, D, len(expected) > 2)

    def test_one_upon_itself(self):
        for corners in BODIES + (VAST,):
            self.check(corners, corners, MIDDLE, True)

    def test_drawn(self):
        counted = {True: 0, False: 0}
        for ones, others, D in drawn_pairs(17, 300) + drawn_pairs(18, 300, 2) + drawn_pairs(19, 20, GREAT):
            overlapping = overlap_by_area(ones, others, D)
            counted[overlapping] += 1
            self.check(ones, others, D, overlapping)
        self.assertGreater(min(counted.values()), 100)


class NothingKeptTest(unittest.TestCase):
    def test_what_is_handed_in_stays_and_what_is_told_is_the_askers_own(self):
        ones = list(SQUARE)
        others = list(TRIANGLE)
        told = shared(ones, others, (1, 1, 2))
        inner(ones, others, (1, 1, 2))
        overlap(ones, others, (1, 1, 2))
        self.assertEqual((ones, others), (SQUARE, TRIANGLE))
        ones.clear()
        others.clear()
        expected = shared(SQUARE, TRIANGLE, (1, 1, 2))
        self.assertEqual(told, expected)
        told.clear()
        self.assertEqual(shared(SQUARE, TRIANGLE, (1, 1, 2)), expected)

    def test_names_of_the_arguments(self):
        self.assertEqual(shared(ones=SQUARE, others=SQUARE, D=(2, 2, 1)), [(2, 2, 1)])
        self.assertIsNone(inner(ones=SQUARE, others=SQUARE, D=(2, 2, 1)))
        self.assertIs(overlap(ones=SQUARE, others=SQUARE, D=(2, 2, 1)), False)


if __name__ == "__main__":
    unittest.main()
