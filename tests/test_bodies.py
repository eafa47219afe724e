import random
import unittest

from glide.bodies import normals, sides, where
from glide.spots import put_at, spot
from samples import BODIES, DIAMOND, GREAT, MIDDLE, SQUARE, TRIANGLE, VAST, cross, drawn_body, moved, place

SHIFTS = ((0, 0, 1), (3, -5, 1), (-7, -11, 2), (1, 1, 3), (-1, 4, 6), (GREAT, -GREAT, 1), (1, -1, GREAT))


def drawn(count):
    rng = random.Random(9)
    return [drawn_body(rng) for k in range(count)]


class SidesTest(unittest.TestCase):
    def test_ordinary(self):
        self.assertEqual(sides(TRIANGLE), [((0, 0), (4, 0)), ((4, 0), (0, 4)), ((0, 4), (0, 0))])

    def test_in_order_and_the_last_ones_next_is_the_first(self):
        for corners in BODIES + (VAST,):
            told = sides(corners)
            self.assertEqual([side[0] for side in told], corners)
            self.assertEqual([side[1] for side in told], corners[1:] + [corners[0]])
            self.assertEqual({type(side) for side in told}, {tuple})


class NormalsTest(unittest.TestCase):
    def test_ordinary(self):
        self.assertEqual(normals(SQUARE), [(0, -2), (2, 0), (0, 2), (-2, 0)])
        self.assertEqual(normals(TRIANGLE), [(0, -4), (4, 4), (-4, 0)])

    def test_upright_to_the_sides_and_pointing_out(self):
        for corners in list(BODIES) + [VAST] + drawn(40):
            told = normals(corners)
            self.assertEqual(len(told), len(corners))
            for n, (P, Q) in zip(told, sides(corners)):
                self.assertEqual(n[0] * (Q[0] - P[0]) + n[1] * (Q[1] - P[1]), 0)
                self.assertEqual(abs(n[0]) + abs(n[1]), abs(Q[0] - P[0]) + abs(Q[1] - P[1]))
                for other in corners:
                    if other not in (P, Q):
                        self.assertLess(n[0] * other[0] + n[1] * other[1], n[0] * P[0] + n[1] * P[1])


class WhereTest(unittest.TestCase):
    def test_each_place(self):
        for S in SHIFTS:
            def at(x, y):
                return where([(2 * a, 2 * b) for a, b in TRIANGLE], S, put_at((x, y), S))
            self.assertEqual(at(1, 1), 1)
            self.assertEqual(at(3, 4), 1)
            for corner in ((0, 0), (8, 0), (0, 8)):
                self.assertEqual(at(*corner), 0)
            for on_side in ((4, 0), (4, 4), (0, 4), (1, 0), (7, 1)):
                self.assertEqual(at(*on_side), 0)
            for on_line in ((-1, 0), (9, 0), (9, -1), (-1, 9), (0, 9), (0, -1)):
                self.assertEqual(at(*on_line), -1)
            for without in ((-1, -1), (5, 4), (100, 3), (3, -100)):
                self.assertEqual(at(*without), -1)

    def test_hardly_within_and_hardly_without(self):
        self.assertEqual(where(SQUARE, MIDDLE, (1, 1, GREAT)), 1)
        self.assertEqual(where(SQUARE, MIDDLE, (-1, GREAT, GREAT)), -1)
        self.assertEqual(where(SQUARE, MIDDLE, (2 * GREAT - 1, GREAT, GREAT)), 1)
        self.assertEqual(where(SQUARE, MIDDLE, (2 * GREAT + 1, GREAT, GREAT)), -1)
        self.assertEqual(where(SQUARE, (1, 0, GREAT), (1, 1, 1)), 1)
        self.assertEqual(where(SQUARE, (1, 0, GREAT), (0, 1, 1)), -1)

    def test_shift_is_added(self):
        self.assertEqual(where(SQUARE, (10, -20, 1), (11, -19, 1)), 1)
        self.assertEqual(where(SQUARE, (10, -20, 1), (1, 1, 1)), -1)
        self.assertEqual(where(SQUARE, (-1, -3, 2), (-1, -3, 2)), 0)
        self.assertEqual(where(SQUARE, (-1, -3, 2), (0, -1, 1)), 1)
        self.assertEqual(where(DIAMOND, (-1, -1, 2), (-5, -1, 2)), 0)
        self.assertEqual(where(DIAMOND, (-1, -1, 2), (-3, -3, 2)), 0)
        self.assertEqual(where(DIAMOND, (-1, -1, 2), (-4, -4, 3)), 1)

    def test_great_bodies(self):
        self.assertEqual(where(VAST, MIDDLE, MIDDLE), 1)
        self.assertEqual(where(VAST, MIDDLE, (GREAT, GREAT, 1)), -1)
        self.assertEqual(where(VAST, MIDDLE, (GREAT, GREAT - 1, 1)), 0)
        self.assertEqual(where(VAST, MIDDLE, (0, 2 * GREAT - 1, 2)), 0)
        self.assertEqual(where(VAST, MIDDLE, (0, GREAT, 1)), -1)

    def test_drawn(self):
        rng = random.Random(10)
        counted = {1: 0, 0: 0, -1: 0}
        for corners in drawn(150):
            S = spot(rng.randint(-9, 9), rng.randint(-9, 9), rng.randint(1, 3))
            rim = moved(corners, S)
            for again in range(40):
                Q = spot(rng.randint(-12, 12), rng.randint(-12, 12), rng.randint(1, 3))
                hands = [cross(rim[k - 1], rim[k], place(Q)) for k in range(len(rim))]
                expected = (min(hands) > 0) - (min(hands) < 0)
                counted[expected] += 1
                self.assertEqual(where(corners, S, Q), expected)
        self.assertGreater(min(counted.values()), 50)


class NothingKeptTest(unittest.TestCase):
    def test_what_is_handed_in_stays_and_what_is_told_is_the_askers_own(self):
        corners = list(SQUARE)
        told = [sides(corners), normals(corners)]
        self.assertEqual(where(corners, MIDDLE, (1, 1, 1)), 1)
        self.assertEqual(corners, SQUARE)
        corners.clear()
        self.assertEqual(told, [sides(SQUARE), normals(SQUARE)])
        for own in told:
            self.assertIs(type(own), list)
            own.clear()
        self.assertEqual(len(sides(SQUARE)), 4)
        self.assertEqual(len(normals(SQUARE)), 4)

    def test_names_of_the_arguments(self):
        self.assertEqual(len(sides(corners=SQUARE)), 4)
        self.assertEqual(len(normals(corners=SQUARE)), 4)
        self.assertEqual(where(corners=SQUARE, S=MIDDLE, Q=(1, 1, 1)), 1)


if __name__ == "__main__":
    unittest.main()
