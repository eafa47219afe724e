import unittest
from fractions import Fraction

from glide.gaps import gap
from glide.rounds import first_clash, lines_of
from glide.spots import way_from
from samples import DIAMOND, GREAT, SQUARE, TRIANGLE, as_tuple, at_time


def square(name, x, y, V):
    return (name, list(SQUARE), (x, y, 1), V)


# From left to right; the first two clash at 3/2, the last two never.
THREE = [square("a", 0, 0, (1, 0)), square("b", 5, 1, (-1, 0)), square("c", 9, 1, (0, 1))]


class FirstClashTest(unittest.TestCase):
    def test_no_bodies_and_one(self):
        self.assertIsNone(first_clash([]))
        self.assertIsNone(first_clash([square("a", 0, 0, (1, 0))]))

    def test_two_that_never_clash(self):
        self.assertIsNone(first_clash([square("a", 0, 0, (0, 0)), square("b", 5, 0, (1, 0))]))
        self.assertIsNone(first_clash([square("a", 0, 0, (7, 3)), square("b", 5, 0, (7, 3))]))
        self.assertIsNone(first_clash([square("a", 0, 0, (0, 0)), square("b", 2, 0, (0, 0))]))
        self.assertIsNone(first_clash([square("a", 0, 0, (0, 5)), square("b", 2, 0, (0, -5))]))

    def test_two_that_clash(self):
        self.assertEqual(first_clash(THREE[:2]), ((3, 2), [("a", "b")]))
        self.assertEqual(first_clash([square("a", 0, 0, (0, 0)), square("b", 5, 0, (-2, 0))]), ((3, 2), [("a", "b")]))
        self.assertEqual(first_clash([square("a", 0, 0, (2, 0)), square("b", 5, 0, (0, 0))]), ((3, 2), [("a", "b")]))
        self.assertEqual(first_clash([square("a", 0, 0, (5, 9)), square("b", 5, 0, (3, 9))]), ((3, 2), [("a", "b")]))

    def test_now(self):
        self.assertEqual(first_clash([square("a", 0, 0, (1, 0)), square("b", 2, 0, (0, 0))]), ((0, 1), [("a", "b")]))

    def test_the_first_of_several(self):
        self.assertEqual(first_clash(THREE), ((3, 2), [("a", "b")]))
        rows = [square("a", 0, 0, (0, 0)), square("b", 9, 0, (-1, 0)), square("c", 0, 5, (0, -1))]
        self.assertEqual(first_clash(rows), ((3, 1), [("a", "c")]))
        rows = [square("a", 0, 0, (0, 0)), square("b", 5, 0, (-1, 0)), square("c", 0, 9, (0, -1))]
        self.assertEqual(first_clash(rows), ((3, 1), [("a", "b")]))

    def test_two_pairs_at_the_same_time(self):
        rows = [
            square("a", 0, 0, (1, 0)), square("b", 0, 10, (0, 0)), square("c", 4, 0, (-1, 0)),
            square("d", 3, 10, (-1, 0)), square("e", 3, 100, (9, 0)),
        ]
        self.assertEqual(first_clash(rows), ((1, 1), [("a", "c"), ("b", "d")]))

    def test_a_body_in_two_pairs(self):
        rows = [square("a", 0, 0, (0, 0)), square("b", 3, 0, (-1, 0)), square("c", 4, -4, (-1, 1))]
        self.assertEqual(first_clash(rows), ((1, 1), [("a", "b")]))
        rows = [square("a", 0, 0, (1, 0)), square("b", 4, 0, (-1, 0)), square("c", 5, 3, (-1, -1))]
        self.assertEqual(first_clash(rows), ((1, 1), [("a", "b"), ("b", "c")]))
        rows = [square("a", 0, 0, (1, 0)), square("b", 4, 0, (-1, 0)), square("c", 2, 3, (0, -1))]
        self.assertEqual(first_clash(rows), ((1, 1), [("a", "b"), ("a", "c"), ("b", "c")]))

    def test_pairs_of_names_that_are_not_of_one_length(self):
        rows = [square("ab", 0, 0, (0, 0)), square("b", -3, 0, (1, 0)), square("ba", 3, 0, (-1, 0))]
        self.assertEqual(first_clash(rows), ((1, 1), [("ab", "b"), ("ab", "ba")]))

    def test_seen_from_shifts_that_are_not_whole(self):
        rows = [("a", SQUARE, (1, 1, 2), (0, 0)), ("b", SQUARE, (10, 1, 3), (-1, 0))]
        self.assertEqual(first_clash(rows), ((5, 6), [("a", "b")]))

    def test_great_numbers(self):
        rows = [square("a", -GREAT, 0, (GREAT, 0)), square("b", GREAT, 1, (-1, 0))]
        self.assertEqual(first_clash(rows), (as_tuple(Fraction(2 * GREAT - 2, GREAT + 1)), [("a", "b")]))


class LinesOfTest(unittest.TestCase):
    def check(self, rows, t, expected):
        told = lines_of(rows, t)
        self.assertIs(type(told), list)
        self.assertEqual([row[:2] for row in told], expected)
        by_name = {row[0]: row for row in rows}
        for one, other, n in told:
            self.check_line(by_name[one], by_name[other], n, t)

    def check_line(self, one, other, n, t):
        self.assertNotEqual(n, (0, 0))
        D = way_from(one[2], other[2])
        V = (other[3][0] - one[3][0], other[3][1] - one[3][1])
        self.assertGreaterEqual(gap(one[1], other[1], D, n)[0], 0)
        if t is None:
            self.assertGreaterEqual(V[0] * n[0] + V[1] * n[1], 0)
        else:
            self.assertGreaterEqual(gap(one[1], other[1], at_time(D, V, Fraction(*t)), n)[0], 0)

    def test_no_bodies_and_one(self):
        for t in ((0, 1), (5, 2), None):
            self.assertEqual(lines_of([], t), [])
            self.assertEqual(lines_of(THREE[:1], t), [])

    def test_each_two_sorted(self):
        for t in ((0, 1), (1, 2), (3, 2)):
            self.check(THREE, t, [("a", "b"), ("a", "c"), ("b", "c")])

    def test_for_ever(self):
        self.check(THREE[1:], None, [("b", "c")])
        rows = [square("a", 0, 0, (-1, 0)), square("b", 2, 2, (-1, 0)), square("c", 4, 4, (7, 5))]
        self.check(rows, None, [("a", "b"), ("a", "c"), ("b", "c")])
        self.check(rows, (GREAT, 7), [("a", "b"), ("a", "c"), ("b", "c")])

    def test_close_past_one_another(self):
        rows = [("a", SQUARE, (0, 0, 1), (1, -1)), ("b", SQUARE, (14, -10, 1), (0, 0)), ("c", DIAMOND, (1, 99, 2), (0, 0))]
        self.check(rows, (100, 1), [("a", "b"), ("a", "c"), ("b", "c")])
        self.check(rows, None, [("a", "b"), ("a", "c"), ("b", "c")])


class NothingKeptTest(unittest.TestCase):
    def test_what_is_handed_in_stays_and_what_is_told_is_the_askers_own(self):
        rows = list(THREE)
        told = first_clash(rows)
        lines = lines_of(rows, (1, 1))
        self.assertEqual(rows, THREE)
        self.assertEqual([row[1] for row in rows], [SQUARE] * 3)
        before = list(lines)
        rows.clear()
        self.assertEqual((told, lines), (((3, 2), [("a", "b")]), before))
        told[1].clear()
        lines.clear()
        self.assertEqual(first_clash(THREE), ((3, 2), [("a", "b")]))
        self.assertEqual(lines_of(THREE, (1, 1)), before)

    def test_names_of_the_arguments(self):
        self.assertIsNone(first_clash(standing=[]))
        self.assertEqual(lines_of(standing=[("a", TRIANGLE, (0, 0, 1), (0, 0))], t=None), [])


if __name__ == "__main__":
    unittest.main()
