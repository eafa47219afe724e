import unittest
from fractions import Fraction
from math import gcd

from glide.errors import NoNumber
from glide.portions import portion
from glide.spots import ahead, gone_on, put_at, spot, way_from

GREAT = 10 ** 60 - 1
NO_WHOLES = (True, False, "1", "", None, [], [1], (), (1,), {}, {1: 1}, 1.0, object())
SPOTS = sorted({spot(x, y, w) for x in range(-3, 4) for y in range(-3, 4) for w in (1, 2, 3)})
SPEEDS = ((0, 0), (1, 0), (0, -1), (2, 3), (-4, 6))
TIMES = ((0, 1), (1, 1), (-1, 1), (1, 2), (-3, 2), (5, 6))


def place(S):
    return (Fraction(S[0], S[2]), Fraction(S[1], S[2]))


class SpotCase(unittest.TestCase):
    def check(self, told, x, y):
        self.assertIs(type(told), tuple)
        self.assertEqual(len(told), 3)
        self.assertGreaterEqual(told[2], 1)
        self.assertEqual(gcd(*told), 1)
        self.assertEqual(place(told), (x, y))


class SpotTest(SpotCase):
    def test_third_number_of_0_is_refused(self):
        for x, y in ((0, 0), (1, 2), (-1, GREAT)):
            with self.assertRaises(NoNumber):
                spot(x, y, 0)

    def test_what_is_no_whole_number_is_refused(self):
        for thing in NO_WHOLES:
            with self.subTest(thing=thing):
                with self.assertRaises(NoNumber):
                    spot(thing, 1, 1)
                with self.assertRaises(NoNumber):
                    spot(1, thing, 1)
                with self.assertRaises(NoNumber):
                    spot(1, 1, thing)

    def test_third_number_below_0(self):
        self.assertEqual(spot(1, -2, -3), (-1, 2, 3))
        self.assertEqual(spot(4, 6, -2), (-2, -3, 1))
        self.assertEqual(spot(0, 0, -1), (0, 0, 1))

    def test_all_three_are_divided(self):
        self.assertEqual(spot(6, -9, 12), (2, -3, 4))
        self.assertEqual(spot(0, 4, 6), (0, 2, 3))
        self.assertEqual(spot(4, 0, 6), (2, 0, 3))

    def test_not_divided_where_only_two_have_a_divisor(self):
        self.assertEqual(spot(2, 3, 4), (2, 3, 4))
        self.assertEqual(spot(3, 2, 4), (3, 2, 4))
        self.assertEqual(spot(4, 2, 3), (4, 2, 3))
        self.assertEqual(spot(6, 10, 15), (6, 10, 15))

    def test_first_two_of_0(self):
        for w in (1, 5, -5, GREAT, -GREAT):
            self.assertEqual(spot(0, 0, w), (0, 0, 1))

    def test_great_numbers(self):
        self.assertEqual(spot(GREAT, -GREAT, GREAT), (1, -1, 1))
        self.assertEqual(spot(GREAT, 1, -GREAT), (-GREAT, -1, GREAT))

    def test_all_small_ones(self):
        for x in range(-6, 7):
            for y in range(-6, 7):
                for w in (-6, -4, -1, 1, 2, 3, 6):
                    self.check(spot(x, y, w), Fraction(x, w), Fraction(y, w))


class PutAtTest(SpotCase):
    def test_ordinary(self):
        self.assertEqual(put_at((1, 2), (1, -1, 2)), (3, 3, 2))
        self.assertEqual(put_at((3, 4), (-1, -2, 1)), (2, 2, 1))

    def test_by_the_middle_and_from_the_middle(self):
        self.assertEqual(put_at((-3, 7), (0, 0, 1)), (-3, 7, 1))
        self.assertEqual(put_at((0, 0), (5, -3, 7)), (5, -3, 7))
        self.assertEqual(put_at((1, -1), (-1, 1, 1)), (0, 0, 1))

    def test_great_numbers(self):
        self.assertEqual(put_at((GREAT, -GREAT), (1, 1, GREAT)), (GREAT * GREAT + 1, 1 - GREAT * GREAT, GREAT))

    def test_all_small_ones(self):
        for S in SPOTS:
            x, y = place(S)
            for point in ((0, 0), (1, 0), (0, 1), (-2, 3)):
                self.check(put_at(point, S), x + point[0], y + point[1])


class GoneOnTest(SpotCase):
    def test_ordinary(self):
        self.assertEqual(gone_on((1, 2, 3), (1, -1), (1, 2)), (5, 1, 6))

    def test_is_brought_to_lowest_terms(self):
        self.assertEqual(gone_on((1, 1, 2), (1, 3), (1, 2)), (1, 2, 1))

    def test_time_of_0_and_speed_of_0(self):
        for S in SPOTS:
            self.assertEqual(gone_on(S, (3, -5), (0, 1)), S)
            self.assertEqual(gone_on(S, (0, 0), (7, 3)), S)

    def test_time_below_0_goes_the_other_way(self):
        self.assertEqual(gone_on((0, 0, 1), (2, -3), (-1, 1)), (-2, 3, 1))
        self.assertEqual(gone_on((0, 0, 1), (2, -3), (-1, 2)), (-2, 3, 2))

    def test_great_numbers(self):
        self.assertEqual(gone_on((1, 0, GREAT), (GREAT, GREAT), (1, GREAT)), (GREAT + 1, GREAT, GREAT))

    def test_all_small_ones(self):
        for S in SPOTS:
            x, y = place(S)
            for V in SPEEDS:
                for t in TIMES:
                    time = Fraction(*t)
                    self.check(gone_on(S, V, t), x + time * V[0], y + time * V[1])


class WayFromTest(SpotCase):
    def test_ordinary(self):
        self.assertEqual(way_from((1, 1, 2), (2, 0, 3)), (1, -3, 6))
        self.assertEqual(way_from((2, 0, 3), (1, 1, 2)), (-1, 3, 6))

    def test_from_the_middle_and_to_the_middle(self):
        self.assertEqual(way_from((0, 0, 1), (2, -3, 5)), (2, -3, 5))
        self.assertEqual(way_from((2, -3, 5), (0, 0, 1)), (-2, 3, 5))

    def test_from_a_spot_to_itself(self):
        for S in SPOTS:
            self.assertEqual(way_from(S, S), (0, 0, 1))

    def test_put_behind_the_first_it_is_the_second(self):
        for S in ((2, -3, 1), (0, 0, 1), (-4, 7, 1), (GREAT, -GREAT, 1)):
            for Q in SPOTS:
                self.assertEqual(put_at((S[0], S[1]), way_from(S, Q)), Q)

    def test_all_small_ones(self):
        for S in SPOTS:
            for Q in SPOTS:
                x = place(Q)[0] - place(S)[0]
                y = place(Q)[1] - place(S)[1]
                self.check(way_from(S, Q), x, y)


class AheadTest(unittest.TestCase):
    def both_ways(self, first, second):
        self.assertIs(ahead(first, second), True)
        self.assertIs(ahead(second, first), False)

    def test_farther_left(self):
        self.both_ways((-1, 0, 1), (0, 0, 1))
        self.both_ways((1, 9, 3), (1, -9, 2))
        self.both_ways((-1, 9, 2), (-1, -9, 3))

    def test_straight_below(self):
        self.both_ways((1, 0, 1), (1, 2, 1))
        self.both_ways((1, 2, 2), (2, 6, 4))
        self.both_ways((0, -1, 2), (0, -1, 3))

    def test_below_but_farther_right_is_not_ahead(self):
        self.assertIs(ahead((1, -5, 1), (0, 5, 1)), False)

    def test_one_and_the_same_spot(self):
        for S in SPOTS:
            self.assertIs(ahead(S, S), False)

    def test_great_numbers(self):
        self.both_ways((1, 1, GREAT), (1, 1, GREAT - 1))
        self.both_ways((GREAT, 1, GREAT - 1), (GREAT, 2, GREAT - 1))

    def test_all_small_ones(self):
        for S in SPOTS:
            for Q in SPOTS:
                self.assertIs(ahead(S, Q), place(S) < place(Q))


class NothingKeptTest(unittest.TestCase):
    def test_nothing_handed_in_is_changed_or_kept(self):
        # Lists stand here for spots only because a change of them can be seen.
        S = [1, 1, 2]
        Q = [2, 0, 3]
        V = [1, 3]
        t = list(portion(1, 2))
        told = [put_at(V, S), gone_on(S, V, t), way_from(S, Q), ahead(S, Q)]
        self.assertEqual((S, Q, V, t), ([1, 1, 2], [2, 0, 3], [1, 3], [1, 2]))
        S[0] = Q[0] = V[0] = t[0] = 100
        self.assertEqual(told, [(3, 7, 2), (1, 2, 1), (1, -3, 6), True])
        self.assertEqual(way_from((1, 1, 2), (2, 0, 3)), (1, -3, 6))


class ArgumentsTest(unittest.TestCase):
    def test_names_of_the_arguments(self):
        self.assertEqual(spot(x=2, y=4, w=6), (1, 2, 3))
        self.assertEqual(put_at(point=(1, 2), S=(1, -1, 2)), (3, 3, 2))
        self.assertEqual(gone_on(S=(1, 2, 3), V=(1, -1), t=(1, 2)), (5, 1, 6))
        self.assertEqual(way_from(S=(1, 1, 2), Q=(2, 0, 3)), (1, -3, 6))
        self.assertIs(ahead(S=(1, 0, 1), Q=(1, 2, 1)), True)


if __name__ == "__main__":
    unittest.main()
