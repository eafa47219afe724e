import unittest
from fractions import Fraction

from glide.errors import NoText
from glide.texts import read_number, read_point, read_points, read_portion, show_portion
from samples import GREAT, as_tuple

SIXTY = "9" * 60
SIXTY_ONE = "1" + "0" * 60

NUMBERS = (
    ("0", 0), ("1", 1), ("9", 9), ("-1", -1), ("10", 10), ("-10", -10), ("1234567890", 1234567890),
    (SIXTY, GREAT), ("-" + SIXTY, -GREAT), ("1" + "0" * 59, 10 ** 59), ("-1" + "0" * 59, -10 ** 59),
)

NO_NUMBERS = (
    "", "-", "--1", "-0", "+1", "+0", "+", "00", "01", "-01", "007", "-00", "0x1", "1e3", "1.0", "1.", ".5", "1_000",
    "1,000", "a", "one", "1a", "a1", "1-", "1-2", "- 1", " 1", "1 ", "\t1", "1\t", "\n1", "1\n", "1\r", "1\n\n", " ", "\n",
    "1 2", SIXTY_ONE, "-" + SIXTY_ONE, "0" * 60, "0" + SIXTY, "\u0663", "\u00b2", "1\u0660", "\uff11", "None", "True",
)

NO_TEXTS = (None, True, False, 0, 1, -1, 1.0, b"1", b"", [], ["1"], ("1",), {}, {"1": 1}, object(), (1, 2), [(1, 2)])


class TextCase(unittest.TestCase):
    def refused(self, read, thing):
        with self.subTest(read=read.__name__, thing=thing):
            with self.assertRaises(NoText):
                read(thing)


class ReadNumberTest(TextCase):
    def test_let(self):
        for text, number in NUMBERS:
            self.assertEqual(read_number(text), number)
            self.assertIs(type(read_number(text)), int)

    def test_refused(self):
        for thing in NO_NUMBERS + NO_TEXTS + ("1/2", "1/1", "1,2", "1;2"):
            self.refused(read_number, thing)

    def test_all_small_ones(self):
        for number in range(-1200, 1201):
            self.assertEqual(read_number(str(number)), number)


class ReadPortionTest(TextCase):
    def test_whole_numbers(self):
        for text, number in NUMBERS:
            self.assertEqual(read_portion(text), (number, 1))

    def test_lowest_terms(self):
        for text, expected in (
            ("1/2", (1, 2)), ("-1/2", (-1, 2)), ("3/2", (3, 2)), ("-22/7", (-22, 7)), ("10/9", (10, 9)),
            (f"1/{SIXTY}", (1, GREAT)), (f"-{SIXTY}/2", (-GREAT, 2)), (f"{GREAT - 1}/{SIXTY}", (GREAT - 1, GREAT)),
        ):
            self.assertEqual(read_portion(text), expected)
            self.assertIs(type(read_portion(text)), tuple)

    def test_refused(self):
        for thing in NO_NUMBERS + NO_TEXTS:
            self.refused(read_portion, thing)
        for text in (
            "1/1", "0/1", "5/1", "2/4", "-2/4", "6/3", "3/-2", "-3/-2", "1/0", "0/0", "0/3", "0/2", "-0/3", "1/-1",
            "1/", "/2", "/", "1//2", "1/2/3", "1/2/", "/1/2", "1/02", "01/2", "1/+2", "+1/2", " 1/2", "1/2 ", "1 /2",
            "1/ 2", "1/2\n", "\t1/2", "1:2", "1\\2", "1,2", "1/2,3", f"1/{SIXTY_ONE}", f"{SIXTY_ONE}/3", "1/a", "a/2",
        ):
            self.refused(read_portion, text)

    def test_all_small_ones(self):
        for top in range(-12, 13):
            for bottom in range(-3, 13):
                text = f"{top}/{bottom}"
                if bottom > 1 and as_tuple(Fraction(top, bottom)) == (top, bottom):
                    self.assertEqual(read_portion(text), (top, bottom))
                else:
                    self.refused(read_portion, text)


class ReadPointTest(TextCase):
    def test_let(self):
        for first, x in NUMBERS:
            for second, y in NUMBERS:
                told = read_point(f"{first},{second}")
                self.assertIs(type(told), tuple)
                self.assertEqual(told, (x, y))

    def test_refused(self):
        for thing in NO_NUMBERS:
            if isinstance(thing, str) and thing != "1,000":
                self.refused(read_point, thing)
                self.refused(read_point, f"{thing},1")
                self.refused(read_point, f"1,{thing}")
        for thing in NO_TEXTS + (
            "1", "12", "1,", ",1", ",", "1,,2", ",1,2", "1,2,", "1,2,3", "1;2", "1 2", "1, 2", "1 ,2", " 1,2", "1,2 ",
            "1,2\n", "\n1,2", "1,\t2", "(1,2)", "1/2,1", "1,1/2", "1,2;3,4", "1,2;", ";1,2", "1.2", "-,-",
        ):
            self.refused(read_point, thing)


class ReadPointsTest(TextCase):
    def test_let(self):
        for text, expected in (
            ("1,2", [(1, 2)]), ("0,0;1,0;0,1", [(0, 0), (1, 0), (0, 1)]), ("-1,-2;-1,-2", [(-1, -2), (-1, -2)]),
            (f"{SIXTY},-{SIXTY};0,0", [(GREAT, -GREAT), (0, 0)]),
            (";".join(["3,4"] * 40), [(3, 4)] * 40),
        ):
            told = read_points(text)
            self.assertIs(type(told), list)
            self.assertEqual(told, expected)

    def test_refused(self):
        for thing in NO_TEXTS + (
            "", ";", "1,2;", ";1,2", "1,2;;3,4", "1,2;3", "1;2", "1,2,3,4", "1,2 3,4", "1,2; 3,4", "1,2 ;3,4", " 1,2;3,4",
            "1,2;3,4 ", "1,2;3,4\n", "1,2\n3,4", "1,2;3,-0", "1,2;+3,4", "01,2;3,4", "1,2;3,,4", "1,2;3,4,", "1,2;a,b",
            "1,2:3,4", f"1,2;{SIXTY_ONE},4", "1/2,3;4,5",
        ):
            self.refused(read_points, thing)

    def test_each_list_is_the_askers_own(self):
        told = read_points("1,2;3,4")
        told.clear()
        self.assertEqual(read_points("1,2;3,4"), [(1, 2), (3, 4)])


class ShowPortionTest(unittest.TestCase):
    def test_told_ones(self):
        for one, text in (
            ((0, 1), "0"), ((1, 1), "1"), ((-1, 1), "-1"), ((3, 2), "3/2"), ((-3, 2), "-3/2"), ((1, GREAT), f"1/{SIXTY}"),
            ((GREAT, 1), SIXTY), ((10, 1), "10"), ((1, 10), "1/10"),
        ):
            self.assertEqual(show_portion(one), text)

    def test_read_and_shown_again(self):
        for text in [text for text, number in NUMBERS] + ["1/2", "-1/2", "22/7", f"-{SIXTY}/2", f"1/{SIXTY}"]:
            self.assertEqual(show_portion(read_portion(text)), text)

    def test_as_many_figures_as_it_needs(self):
        self.assertEqual(show_portion((10 ** 3000, 3)), "1" + "0" * 3000 + "/3")
        self.assertEqual(show_portion((-10 ** 3000, 1)), "-1" + "0" * 3000)


class ArgumentsTest(unittest.TestCase):
    def test_names_of_the_arguments(self):
        self.assertEqual(read_number(text="1"), 1)
        self.assertEqual(read_portion(text="1/2"), (1, 2))
        self.assertEqual(read_point(text="1,2"), (1, 2))
        self.assertEqual(read_points(text="1,2"), [(1, 2)])
        self.assertEqual(show_portion(one=(1, 2)), "1/2")


if __name__ == "__main__":
    unittest.main()
