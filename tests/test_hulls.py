import itertools
import random
import unittest

from glide.errors import Flat
from glide.hulls import hull
from samples import BODIES, GREAT, VAST, cross


def lies_in(point, corners):
    """Whether a point lies in or on the triangle, perhaps a flat one, of three others."""
    hands = [cross(P, Q, point) for P, Q in zip(corners, corners[1:] + corners[:1])]
    if cross(*corners) != 0:
        return min(hands) >= 0 or max(hands) <= 0
    spans = [(min(c[k] for c in corners), max(c[k] for c in corners)) for k in (0, 1)]
    return hands == [0, 0, 0] and all(low <= point[k] <= high for k, (low, high) in enumerate(spans))


def is_corner(point, points):
    rest = [other for other in points if other != point]
    return not any(lies_in(point, list(three)) for three in itertools.combinations_with_replacement(rest, 3))


class FlatTest(unittest.TestCase):
    def refused(self, points):
        with self.assertRaises(Flat) as caught:
            hull(points)
        self.assertIs(type(caught.exception), Flat)

    def test_too_few_unlike_points(self):
        self.refused([])
        self.refused([(0, 0)])
        self.refused([(3, -7)])
        self.refused([(0, 0), (1, 2)])
        self.refused([(1, 2), (0, 0)])
        self.refused([(5, 5)] * 40)
        self.refused([(5, 5), (1, 2)] * 20)
        self.refused([(GREAT, -GREAT)] * 3)

    def test_on_one_line(self):
        steps = (-3, 4, 0, 1, 1, 9, -8)
        for way in ((1, 0), (0, 1), (1, 1), (1, -1), (2, 3), (-5, 2), (GREAT, 1), (1, -GREAT)):
            for start in ((0, 0), (4, -7), (-GREAT, GREAT)):
                for count in (3, 4, len(steps)):
                    with self.subTest(way=way, start=start, count=count):
                        self.refused([(start[0] + k * way[0], start[1] + k * way[1]) for k in steps[:count]])

    def test_hardly_off_the_line_is_let(self):
        self.assertEqual(hull([(0, 0), (GREAT, GREAT), (1, 0)]), [(0, 0), (1, 0), (GREAT, GREAT)])
        self.assertEqual(
            hull([(-GREAT, -GREAT), (GREAT, GREAT - 1), (0, 0), (0, 0)]),
            [(-GREAT, -GREAT), (GREAT, GREAT - 1), (0, 0)],
        )


class HullTest(unittest.TestCase):
    def test_three_points(self):
        for points in itertools.permutations([(0, 0), (3, 1), (1, 4)]):
            self.assertEqual(hull(list(points)), [(0, 0), (3, 1), (1, 4)])

    def test_points_that_stand_several_times(self):
        self.assertEqual(hull([(1, 4), (0, 0), (3, 1), (0, 0), (1, 4), (3, 1), (3, 1)]), [(0, 0), (3, 1), (1, 4)])

    def test_points_within(self):
        self.assertEqual(hull([(1, 1), (0, 4), (2, 1), (4, 4), (4, 0), (3, 3), (0, 0)]), [(0, 0), (4, 0), (4, 4), (0, 4)])

    def test_points_on_each_side_between_two_corners(self):
        for corners in BODIES:
            double = [(2 * x, 2 * y) for x, y in corners]
            for k, (P, Q) in enumerate(zip(corners, corners[1:] + corners[:1])):
                with self.subTest(corners=corners, side=k):
                    self.assertEqual(hull(double + [(P[0] + Q[0], P[1] + Q[1])]), double)
            halves = [(P[0] + Q[0], P[1] + Q[1]) for P, Q in zip(corners, corners[1:] + corners[:1])]
            self.assertEqual(hull(halves + double), double)

    def test_first_corner_farthest_left_and_lowest_of_those(self):
        self.assertEqual(hull([(0, 3), (2, -5), (0, 1), (0, -2), (2, 5)])[0], (0, -2))
        self.assertEqual(hull([(0, 3), (2, -5), (-1, 7), (0, -2), (2, 5)])[0], (-1, 7))

    def test_round_to_the_left(self):
        self.assertEqual(hull([(0, 0), (0, 1), (1, 0)]), [(0, 0), (1, 0), (0, 1)])
        self.assertEqual(hull([(-2, 0), (0, 2), (2, 0), (0, -2)]), [(-2, 0), (0, -2), (2, 0), (0, 2)])

    def test_bodies_are_their_own_hulls(self):
        for corners in BODIES + (VAST,):
            self.assertEqual(hull(corners), corners)

    def test_whatever_the_order(self):
        points = [(0, 0), (4, 1), (1, 1), (3, 5), (-1, 2)]
        told = {tuple(hull(list(order))) for order in itertools.permutations(points)}
        self.assertEqual(told, {((-1, 2), (0, 0), (4, 1), (3, 5))})

    def test_all_sets_on_a_small_grid(self):
        grid = [(x, y) for x in range(3) for y in range(3)]
        for bits in range(512):
            points = [point for k, point in enumerate(grid) if bits >> k & 1]
            expected = [point for point in points if is_corner(point, points)]
            if len(expected) < 3:
                with self.assertRaises(Flat):
                    hull(points)
            else:
                told = hull(points)
                self.assertEqual(sorted(told), expected)
                self.check_order(told)

    def check_order(self, corners):
        self.assertEqual(corners[0], min(corners))
        for k in range(len(corners)):
            self.assertGreater(cross(corners[k - 2], corners[k - 1], corners[k]), 0)

    def test_drawn_points_of_sixty_figures(self):
        rng = random.Random(8)
        for size in (3, 20, GREAT):
            for count in (3, 7, 40):
                for again in range(6):
                    points = [(rng.randint(-size, size), rng.randint(-size, size)) for k in range(count)]
                    self.check_drawn(points, rng)

    def check_drawn(self, points, rng):
        told = hull(points)
        self.check_order(told)
        self.assertEqual(len(set(told)), len(told))
        self.assertLessEqual(set(told), set(points))
        for P, Q in zip(told, told[1:] + told[:1]):
            self.assertGreaterEqual(min(cross(P, Q, point) for point in points), 0)
        self.assertEqual(hull(told), told)
        self.assertEqual(hull(list(reversed(told))), told)
        for again in range(3):
            rng.shuffle(points)
            self.assertEqual(hull(points), told)

    def test_forty_corners(self):
        points = [(k, k * k) for k in range(-20, 20)]
        self.assertEqual(sorted(hull(points)), points)
        self.assertEqual(hull(points)[:3], [(-20, 400), (-19, 361), (-18, 324)])
        self.assertEqual(hull(points)[-1], (19, 361))


class NothingKeptTest(unittest.TestCase):
    def test_what_is_handed_in_stays(self):
        points = [(1, 1), (4, 4), (0, 4), (0, 0), (4, 0), (0, 0)]
        before = list(points)
        hull(points)
        self.assertEqual(points, before)
        flat = [(3, 3), (1, 1), (2, 2)]
        with self.assertRaises(Flat):
            hull(flat)
        self.assertEqual(flat, [(3, 3), (1, 1), (2, 2)])

    def test_what_is_told_is_the_askers_own(self):
        points = [(0, 0), (1, 0), (0, 1)]
        told = hull(points)
        self.assertIs(type(told), list)
        self.assertIsNot(told, points)
        points.append((9, 9))
        points[0] = (-5, -5)
        self.assertEqual(told, [(0, 0), (1, 0), (0, 1)])
        told.append((7, 7))
        self.assertEqual(points, [(-5, -5), (1, 0), (0, 1), (9, 9)])
        self.assertEqual(hull([(0, 0), (1, 0), (0, 1)]), [(0, 0), (1, 0), (0, 1)])

    def test_name_of_the_argument(self):
        self.assertEqual(hull(points=[(0, 0), (1, 0), (0, 1)]), [(0, 0), (1, 0), (0, 1)])


if __name__ == "__main__":
    unittest.main()
