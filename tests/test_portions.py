import math
import unittest
from fractions import Fraction

from glide.errors import NoNumber
from glide.portions import divisor, is_whole, minus, plus, portion, times, under

GREAT = 10 ** 60 - 1
PRIME = 2 ** 127 - 1
NO_WHOLES = (True, False, "1", "", None, [], [1], (), (1,), {}, {1: 1}, 1.0, object())
SMALL = [portion(top, bottom) for top in range(-6, 7) for bottom in range(1, 7) if math.gcd(top, bottom) == 1]


def as_tuple(number):
    return (number.numerator, number.denominator)


class IsWholeTest(unittest.TestCase):
    def test_whole_numbers(self):
        for thing in (0, 1, -1, 7, GREAT, -GREAT):
            self.assertIs(is_whole(thing), True, thing)

    def test_truths_and_other_things_are_none(self):
        for thing in NO_WHOLES:
            self.assertIs(is_whole(thing), False, thing)


class DivisorTest(unittest.TestCase):
    def test_of_0_and_0_is_0(self):
        self.assertEqual(divisor(0, 0), 0)

    def test_of_0_and_another_one_is_the_other_without_its_sign(self):
        for number in (1, 7, GREAT):
            for signed in (number, -number):
                self.assertEqual(divisor(0, signed), number)
                self.assertEqual(divisor(signed, 0), number)

    def test_signs_do_not_count(self):
        for one in (12, -12):
            for other in (18, -18):
                self.assertEqual(divisor(one, other), 6)
                self.assertEqual(divisor(other, one), 6)

    def test_equal_ones(self):
        self.assertEqual(divisor(9, 9), 9)
        self.assertEqual(divisor(-9, -9), 9)
        self.assertEqual(divisor(9, -9), 9)

    def test_nothing_above_1_divides(self):
        self.assertEqual(divisor(8, 15), 1)
        self.assertEqual(divisor(-35, 64), 1)
        self.assertEqual(divisor(1, GREAT), 1)

    def test_sixty_figures(self):
        common = 10 ** 40 + 7
        one = common * (10 ** 19 + 1)
        other = common * (10 ** 19 + 2)
        self.assertEqual(len(str(one)), 60)
        self.assertEqual(divisor(one, other), common)
        self.assertEqual(divisor(GREAT, GREAT - 1), 1)
        self.assertEqual(divisor(-GREAT, GREAT), GREAT)

    def test_numbers_that_are_told_may_be_longer(self):
        one = 3 ** 8000
        other = 3 ** 4000 * 2 ** 6000
        self.assertEqual(divisor(one, other), 3 ** 4000)

    def test_all_small_ones(self):
        for one in range(-30, 31):
            for other in range(-30, 31):
                self.assertEqual(divisor(one, other), math.gcd(one, other), (one, other))


class PortionTest(unittest.TestCase):
    def test_lowest_terms(self):
        self.assertEqual(portion(6, 4), (3, 2))
        self.assertEqual(portion(3, 2), (3, 2))
        self.assertEqual(portion(-6, 4), (-3, 2))
        self.assertEqual(portion(8, 4), (2, 1))

    def test_bottom_below_0(self):
        self.assertEqual(portion(6, -4), (-3, 2))
        self.assertEqual(portion(-6, -4), (3, 2))
        self.assertEqual(portion(1, -1), (-1, 1))

    def test_top_of_0(self):
        for bottom in (1, -1, 5, -5, GREAT, -GREAT):
            self.assertEqual(portion(0, bottom), (0, 1))

    def test_great_numbers(self):
        self.assertEqual(portion(PRIME * 6, PRIME * -4), (-3, 2))
        self.assertEqual(portion(GREAT, GREAT), (1, 1))
        self.assertEqual(portion(GREAT, GREAT - 1), (GREAT, GREAT - 1))

    def test_kind(self):
        for top in range(-12, 13):
            for bottom in list(range(-12, 0)) + list(range(1, 13)):
                made = portion(top, bottom)
                self.assertIs(type(made), tuple)
                self.assertEqual(made, as_tuple(Fraction(top, bottom)))

    def test_bottom_of_0_is_refused(self):
        for top in (0, 1, -1, GREAT):
            with self.assertRaises(NoNumber):
                portion(top, 0)

    def test_what_is_no_whole_number_is_refused(self):
        for thing in NO_WHOLES:
            with self.subTest(thing=thing):
                with self.assertRaises(NoNumber):
                    portion(thing, 1)
                with self.assertRaises(NoNumber):
                    portion(1, thing)


class ReckoningTest(unittest.TestCase):
    def test_plus(self):
        self.assertEqual(plus((1, 6), (1, 3)), (1, 2))
        self.assertEqual(plus((1, 2), (-1, 2)), (0, 1))
        self.assertEqual(plus((1, 6), (-2, 3)), (-1, 2))
        self.assertEqual(plus((0, 1), (5, 7)), (5, 7))

    def test_minus(self):
        self.assertEqual(minus((5, 6), (1, 3)), (1, 2))
        self.assertEqual(minus((3, 7), (3, 7)), (0, 1))
        self.assertEqual(minus((1, 6), (2, 3)), (-1, 2))
        self.assertEqual(minus((1, 2), (-1, 2)), (1, 1))

    def test_times(self):
        self.assertEqual(times((2, 3), (3, 4)), (1, 2))
        self.assertEqual(times((0, 1), (3, 4)), (0, 1))
        self.assertEqual(times((-2, 3), (3, 4)), (-1, 2))
        self.assertEqual(times((-2, 3), (-3, 2)), (1, 1))

    def test_under(self):
        self.assertIs(under((1, 3), (1, 2)), True)
        self.assertIs(under((1, 2), (1, 3)), False)
        self.assertIs(under((1, 2), (1, 2)), False)
        self.assertIs(under((-1, 2), (-1, 3)), True)
        self.assertIs(under((-1, 3), (-1, 2)), False)
        self.assertIs(under((-1, 2), (0, 1)), True)
        self.assertIs(under((0, 1), (0, 1)), False)

    def test_great_numbers(self):
        one = portion(1, GREAT)
        other = portion(1, GREAT - 1)
        self.assertIs(under(one, other), True)
        self.assertIs(under(other, one), False)
        self.assertEqual(minus(other, one), (1, GREAT * (GREAT - 1)))
        self.assertEqual(plus(minus(other, one), one), other)
        self.assertEqual(times(one, (GREAT, 1)), (1, 1))

    def test_all_small_ones(self):
        for one in SMALL:
            for other in SMALL:
                first = Fraction(*one)
                second = Fraction(*other)
                self.assertEqual(plus(one, other), as_tuple(first + second))
                self.assertEqual(minus(one, other), as_tuple(first - second))
                self.assertEqual(times(one, other), as_tuple(first * second))
                self.assertIs(under(one, other), first < second)

    def test_kind(self):
        for told in (plus((1, 2), (1, 2)), minus((1, 2), (1, 2)), times((1, 2), (1, 2))):
            self.assertIs(type(told), tuple)

    def test_nothing_handed_in_is_changed_or_kept(self):
        # Lists stand here for fractions only because a change of them can be seen.
        one = [1, 2]
        other = [1, 3]
        told = [plus(one, other), minus(one, other), times(one, other)]
        self.assertEqual((one, other), ([1, 2], [1, 3]))
        one[0] = 100
        other[1] = 100
        self.assertEqual(told, [(5, 6), (1, 6), (1, 6)])
        self.assertEqual(plus((1, 2), (1, 3)), (5, 6))


class ArgumentsTest(unittest.TestCase):
    def test_names_of_the_arguments(self):
        self.assertIs(is_whole(thing=1), True)
        self.assertEqual(divisor(one=4, other=6), 2)
        self.assertEqual(portion(top=2, bottom=4), (1, 2))
        self.assertEqual(plus(one=(1, 2), other=(1, 3)), (5, 6))
        self.assertEqual(minus(one=(1, 2), other=(1, 3)), (1, 6))
        self.assertEqual(times(one=(1, 2), other=(1, 3)), (1, 6))
        self.assertIs(under(one=(1, 2), other=(1, 3)), False)


if __name__ == "__main__":
    unittest.main()
