import unittest

from glide.desk import Desk
from glide.errors import Crowded, Flat, NoName, NoRow, NoText, Past, Twice

SQUARE = "0,0;2,0;2,2;0,2"
SIXTY = "9" * 60


def desk_of(*rows):
    desk = Desk()
    for row in rows:
        desk.say(row)
    return desk


def state(desk):
    names = desk.say("names")
    told = [desk.say("clock"), names]
    for name in names.split():
        told.append((desk.say(f"where {name}"), desk.say(f"speed {name}")))
    return told


class DeskCase(unittest.TestCase):
    def answers(self, desk, *pairs):
        for row, answer in pairs:
            with self.subTest(row=row):
                told = desk.say(row)
                self.assertIs(type(told), str)
                self.assertEqual(told, answer)

    def refused(self, refusal, desk, *rows):
        before = state(desk)
        for row in rows:
            with self.subTest(row=row):
                with self.assertRaises(refusal) as caught:
                    desk.say(row)
                self.assertIs(type(caught.exception), refusal)
                self.assertEqual(state(desk), before)


class AnswersTest(DeskCase):
    def test_empty_desk(self):
        self.answers(Desk(), ("names", ""), ("clock", "0"), ("settle", "none"), ("go 3/2", "none"), ("clock", "3/2"))

    def test_every_row(self):
        self.answers(
            Desk(),
            (f"put b {SQUARE} 5,0 -1,0", "ok"),
            (f"put a {SQUARE} 0,0 1,0", "ok"),
            ("names", "a b"),
            ("where a", "0,0"),
            ("where b", "5,0"),
            ("speed a", "1,0"),
            ("speed b", "-1,0"),
            ("meet a b", "3/2"),
            ("meet b a", "3/2"),
            ("go 1/2", "none"),
            ("clock", "1/2"),
            ("where a", "1/2,0"),
            ("where b", "9/2,0"),
            ("meet a b", "3/2"),
            ("steer a 0,-3", "ok"),
            ("speed a", "0,-3"),
            ("meet a b", "never"),
            ("steer a 1,0", "ok"),
            ("go 4", "3/2,a,b"),
            ("clock", "4"),
            ("where a", "3/2,0"),
            ("where b", "7/2,0"),
            ("speed a", "0,0"),
            ("speed b", "0,0"),
            ("settle", "none"),
            ("clock", "4"),
            ("meet a b", "never"),
            ("take a", "ok"),
            ("names", "b"),
            ("take b", "ok"),
            ("names", ""),
        )

    def test_several_halts(self):
        desk = desk_of(
            f"put wall {SQUARE} 0,0 0,0", f"put b {SQUARE} 5,0 -2,0", f"put a {SQUARE} 7,0 -2,0",
            f"put c {SQUARE} 0,8 0,-1", f"put d {SQUARE} 90,90 1,1",
        )
        self.answers(
            desk, ("meet wall b", "3/2"), ("meet wall c", "6"), ("settle", "3/2,b 3/2,a 6,c"), ("clock", "6"),
            ("where d", "96,96"),
        )

    def test_several_that_halt_at_once_are_sorted(self):
        desk = desk_of(
            f"put z {SQUARE} 0,0 1,0", f"put y {SQUARE} 4,0 -1,0", f"put b {SQUARE} 0,9 1,0", f"put a {SQUARE} 4,9 -1,0")
        self.answers(desk, ("go 1", "none"), ("go 3", "1,a,b,y,z"), ("names", "a b y z"))

    def test_as_in_the_document(self):
        desk = desk_of(
            f"put a {SQUARE} 0,0 1,0", f"put b {SQUARE} 5,0 -1,0", f"put c {SQUARE} 0,9 0,0", f"put d {SQUARE} 90,9 0,0",
            "steer c 0,-7", "steer c 0,0", f"put e {SQUARE} 90,0 0,1",
        )
        self.answers(desk, ("settle", "3/2,a,b 7,e"), ("clock", "7"))

    def test_the_time_of_a_meeting_is_on_the_clock(self):
        desk = desk_of("go 7/2", f"put a {SQUARE} 0,0 1,0", f"put b {SQUARE} 5,0 -1,0")
        self.answers(desk, ("meet a b", "5"), ("go 5", "none"), ("meet a b", "5"), ("settle", "5,a,b"), ("clock", "5"))

    def test_places_below_0_and_great_ones(self):
        desk = desk_of(f"put a {SQUARE} -{SIXTY},{SIXTY} -1,-{SIXTY}")
        self.answers(
            desk, ("where a", f"-{SIXTY},{SIXTY}"), ("speed a", f"-1,-{SIXTY}"), ("go 1/2", "none"),
            ("where a", f"-{2 * int(SIXTY) + 1}/2,{SIXTY}/2"),
        )

    def test_fractions_of_a_place_each_in_lowest_terms(self):
        desk = desk_of(f"put a {SQUARE} 0,0 1,2", "go 1/6")
        self.answers(desk, ("where a", "1/6,1/3"), ("go 1/2", "none"), ("where a", "1/2,1"))

    def test_points_in_any_order(self):
        desk = desk_of("put a 1,1;2,2;0,2;2,0;0,0;0,0 0,0 0,0")
        self.answers(desk, (f"put b {SQUARE} 2,0 -1,0", "ok"), ("settle", "0,b"))

    def test_each_desk_has_its_own_floor(self):
        one = desk_of(f"put a {SQUARE} 0,0 0,0", "go 3")
        self.assertEqual(state(Desk()), ["0", ""])
        self.assertEqual(one.say("names"), "a")

    def test_name_of_the_argument(self):
        self.assertEqual(Desk().say(row="clock"), "0")


class RefusalsTest(DeskCase):
    def setUp(self):
        self.desk = desk_of(f"put a {SQUARE} 0,0 1,0", f"put b {SQUARE} 9,0 0,0", "go 1/2")

    def test_what_is_no_text(self):
        self.refused(NoRow, self.desk, None, True, False, 0, 1, b"names", [], ["names"], ("names",), {}, object(), 1.5)

    def test_unknown_words(self):
        self.refused(
            NoRow, self.desk, "", "x", "Names", "NAMES", "name", "namesx", "names\n", "\nnames", "names\t", "put", "Put a",
            "body a", "lines", "quit", "where\ta", "go\n1", "clock;", "put,a", "say names", "shift a", "first_clash",
        )

    def test_too_few_words(self):
        self.refused(
            NoRow, self.desk, "put", "put c", f"put c {SQUARE}", f"put c {SQUARE} 5,5", "take", "steer", "steer a", "go",
            "where", "speed", "meet", "meet a",
        )

    def test_too_many_words(self):
        self.refused(
            NoRow, self.desk, f"put c {SQUARE} 20,5 0,0 0,0", "take a b", "steer a 1,1 2,2", "go 1 2", "settle 1",
            "clock 1", "names a", "where a b", "speed a b", "meet a b c", "put c 0,0; 2,0;2,2 20,5 0,0",
        )

    def test_two_blanks_and_a_blank_at_an_end(self):
        self.refused(
            NoRow, self.desk, " ", "  ", " names", "names ", " clock", "clock ", "settle ", " settle", "take  a", "take a ",
            " take a", "go  1", "go 1 ", " go 1", "steer a  1,1", "steer  a 1,1", "steer a 1,1 ", "where a ", "where  a",
            "meet a b ", "meet  a b", "meet a  b", " meet a b", f"put  c {SQUARE} 20,5 0,0", f"put c {SQUARE} 20,5 0,0 ",
            f" put c {SQUARE} 20,5 0,0", f"put c {SQUARE}  20,5 0,0",
        )

    def test_a_word_without_signs_in_its_place(self):
        self.refused(NoName, self.desk, "take ", "where ", "speed ", "meet a ", "meet  a", f"put  {SQUARE} 20,5 0,0")
        self.refused(NoText, self.desk, "go ", "steer a ", "put c  20,5 0,0", f"put c {SQUARE}  0,0")

    def test_no_text(self):
        self.refused(
            NoText, self.desk, "go x", "go 1/1", "go 2/4", "go +1", "go 01", "go -0", "go 1/0", "go 1.5", "go 1\n", "go 3/-2",
            "go 1,2", "go " + "1" * 61, "steer a 1", "steer a 1,2,3", "steer a 1;2", "steer a x,y", "steer a 1/2,1",
            "steer a 1,1\t", f"put c {SQUARE}; 20,5 0,0", f"put c ;{SQUARE} 20,5 0,0", "put c 0,0;2 20,5 0,0",
            "put c x 20,5 0,0", f"put c {SQUARE} 20 0,0", f"put c {SQUARE} 20,5 0", f"put c {SQUARE} 1/2,5 0,0",
            f"put c {SQUARE} 20,5 0,0;0,0", f"put c {SQUARE} 20,5 0,-0", f"put c {SQUARE} {SIXTY}9,5 0,0",
        )

    def test_no_text_ahead_of_what_the_floor_refuses(self):
        self.refused(
            NoText, self.desk, "steer zz x", "steer ZZ 1", "put A x 20,5 0,0", f"put a {SQUARE} x 0,0",
            "put c 0,0;1,1;2,2 20,5 x", f"put c {SQUARE} 0,0 x", f"put A {SQUARE} 0,0 01,0", f"put a {SQUARE} 0 0,0",
        )

    def test_no_row_ahead_of_no_text(self):
        self.refused(NoRow, self.desk, "go x y", "steer a x y", "put A x y", "gone x", "steer x", "put A x y z w")

    def test_no_name(self):
        self.refused(
            NoName, self.desk, "take c", "take A", "take a\n", "steer c 1,1", "where c", "speed c", "meet a c", "meet c a",
            "meet c c", f"put A {SQUARE} 20,5 0,0", f"put abcdefghijklm {SQUARE} 20,5 0,0", f"put a1 {SQUARE} 20,5 0,0",
            f"put a\t {SQUARE} 20,5 0,0", "put A 0,0;1,1 0,0 0,0", f"put 1 {SQUARE} 0,0 0,0",
        )

    def test_twice(self):
        self.refused(Twice, self.desk, f"put a {SQUARE} 20,5 0,0", "put a 0,0;1,1 0,0 0,0", "meet a a", "meet b b")

    def test_flat(self):
        self.refused(Flat, self.desk, "put c 0,0 20,5 0,0", "put c 0,0;1,1 20,5 0,0", "put c 0,0;1,1;2,2 0,0 0,0")

    def test_crowded(self):
        self.refused(Crowded, self.desk, f"put c {SQUARE} 0,0 0,0", f"put c {SQUARE} 2,0 0,0", f"put c {SQUARE} 8,1 5,5")

    def test_past(self):
        self.refused(Past, self.desk, "go 0", "go 1/3", "go -1", "go -7/2")

    def test_the_desk_goes_on_behind_a_refusal(self):
        self.refused(Past, self.desk, "go 0")
        self.refused(NoRow, self.desk, "stop")
        self.answers(self.desk, ("go 1/2", "none"), ("settle", "7,a"), ("clock", "7"))


if __name__ == "__main__":
    unittest.main()
