"""Point [6]: rooms and leaves as texts."""

import random
import unittest

from leavechain.errors import NoText
from leavechain.leaves import is_leave, is_rooms
from leavechain.leaves import read_leave, read_rooms, show_leave, show_rooms

LEAVE_TEXT = (
    "leave 3 on den to look+set from ann for bob since 5 until 9 passes 2 under 1"
)
LEAVE = (3, "den", ("look", "set"), "ann", "bob", 5, 9, 2, 1)
A = "room a of ann holds 1\n"
B = "room b of bob holds -2\n"
C = "room c of cid holds 0\n"
D = "room d of ann holds 999999999\n"
E = "room e of ann holds 5\n"


class Refusals(unittest.TestCase):
    def assert_refused(self, read, text, row):
        with self.subTest(text=text):
            with self.assertRaises(NoText) as caught:
                read(text)
            self.assertEqual(caught.exception.row, row)


class RoomsTextTest(Refusals):
    def test_rooms_are_written_by_names(self):
        rooms = {"den": ("bob", -7), "attic": ("ann", 999999999), "cellar": ("ann", 0)}
        text = (
            "room attic of ann holds 999999999\n"
            "room cellar of ann holds 0\n"
            "room den of bob holds -7\n"
        )
        self.assertEqual(show_rooms(rooms), text)
        self.assertEqual(list(rooms), ["den", "attic", "cellar"])
        self.assertEqual(read_rooms(text), rooms)

    def test_one_and_four_rooms(self):
        self.assertEqual(read_rooms(A), {"a": ("ann", 1)})
        rooms = read_rooms(A + B + C + D)
        self.assertEqual(
            rooms,
            {"a": ("ann", 1), "b": ("bob", -2), "c": ("cid", 0), "d": ("ann", 999999999)},
        )
        self.assertEqual(show_rooms(rooms), A + B + C + D)

    def test_names_that_are_words_of_the_row(self):
        rooms = {"room": ("of", 1), "holds": ("room", 2)}
        self.assertEqual(read_rooms(show_rooms(rooms)), rooms)

    def test_many_rooms_are_read_back_to_the_same(self):
        chance = random.Random(6)
        for _ in range(300):
            rooms = {}
            for _ in range(chance.randint(1, 4)):
                name = "".join(chance.choices("abz", k=chance.randint(1, 8)))
                worth = chance.choice((0, 7, -7, chance.randint(-999999999, 999999999)))
                rooms[name] = (chance.choice(("ann", "b", "abcdefgh")), worth)
            self.assertTrue(is_rooms(rooms))
            read = read_rooms(show_rooms(rooms))
            self.assertEqual(read, rooms)
            self.assertEqual(show_rooms(read), show_rooms(rooms))

    def test_told_rooms_are_the_askers_own(self):
        first = read_rooms(A)
        first["b"] = 1
        self.assertEqual(read_rooms(A), {"a": ("ann", 1)})

    def test_rows_that_lack(self):
        self.assert_refused(read_rooms, "", 1)

    def test_a_last_row_without_its_end(self):
        self.assert_refused(read_rooms, A[:-1], 2)
        self.assert_refused(read_rooms, A + B[:-1], 3)
        self.assert_refused(read_rooms, A + B + C + D[:-1], 5)

    def test_a_last_row_that_is_but_the_beginning_of_a_right_one(self):
        for many in range(1, len("room a of ann holds ") + 1):
            self.assert_refused(read_rooms, A[:many], 1)
            self.assert_refused(read_rooms, A + "room b of ann holds "[:many], 2)
        self.assert_refused(read_rooms, A + "room b of ann holds -", 2)
        self.assert_refused(read_rooms, A + "room b of ann holds -1", 3)
        self.assert_refused(read_rooms, A + "room b of ann holds 1", 3)
        self.assert_refused(read_rooms, A + "room b of ann holds 1 ", 2)

    def test_a_row_that_is_wrong(self):
        for wrong in (
            "\n", " \n", "rest\n", "room b of bob holds\n", "room b of bob holds 1 1\n",
            "rooms b of bob holds 1\n", "room b off bob holds 1\n", "room b of bob hold 1\n",
            "room b bob holds 1\n", "of b room bob holds 1\n", "Room b of bob holds 1\n",
            "room B of bob holds 1\n", "room b of Bob holds 1\n",
            "room bbbbbbbbb of bob holds 1\n", "room b of bbbbbbbbb holds 1\n",
            "room b of bob holds x\n", "room b of bob holds +1\n", "room b of bob holds 1.0\n",
            "room b of bob holds --1\n", "room b of bob holds 1-\n", "room b of bob holds -\n",
            "room b of bob holds 1000000000\n", "room b of bob holds -1000000000\n",
            "room b of bob holds 1_0\n", "room b of bob holds none\n", "room  of bob holds 1\n",
            "leave 0 on b to look from c for d since 0 until 1 passes 0 under none\n",
        ):
            self.assert_refused(read_rooms, wrong, 1)
            self.assert_refused(read_rooms, A + wrong, 2)
            self.assert_refused(read_rooms, A + wrong + C, 2)
            self.assert_refused(read_rooms, A + wrong[:-1] + "!", 2)

    def test_a_worth_of_nine_figures(self):
        for worth in ("999999999", "-999999999", "100000000"):
            self.assertEqual(read_rooms(f"room a of b holds {worth}\n"), {"a": ("b", int(worth))})

    def test_blanks_too_many(self):
        for wrong in (
            " room b of bob holds 1\n", "room b of bob holds 1 \n", "room  b of bob holds 1\n",
            "room b  of bob holds 1\n", "room b of  bob holds 1\n", "room b of bob  holds 1\n",
            "room b of bob holds  1\n", "room\tb of bob holds 1\n", "room b of bob holds - 1\n",
            "room b of bob holds 1\t\n",
        ):
            self.assert_refused(read_rooms, A + wrong, 2)

    def test_a_zero_ahead_of_figures(self):
        for worth in ("00", "01", "-01", "007", "-0", "-00"):
            self.assert_refused(read_rooms, A + f"room b of bob holds {worth}\n", 2)

    def test_a_room_told_twice(self):
        self.assert_refused(read_rooms, A + A, 2)
        self.assert_refused(read_rooms, A + B + "room b of cid holds 5\n", 3)

    def test_rows_out_of_order(self):
        self.assert_refused(read_rooms, B + A, 2)
        self.assert_refused(read_rooms, A + C + B + D, 3)
        self.assert_refused(read_rooms, "room ab of b holds 1\n" + A, 2)
        self.assertEqual(list(read_rooms(A + "room ab of b holds 1\n")), ["a", "ab"])

    def test_a_fifth_row(self):
        self.assert_refused(read_rooms, A + B + C + D + E, 5)
        self.assert_refused(read_rooms, A + B + C + D + E[:-1], 5)
        self.assert_refused(read_rooms, A + B + C + D + "\n", 5)
        self.assert_refused(read_rooms, A + B + C + D + "room", 5)
        self.assert_refused(read_rooms, A + B + C + D + E + A, 5)

    def test_the_first_of_several_wrong_rows(self):
        self.assert_refused(read_rooms, A + "x\n" + "y\n", 2)
        self.assert_refused(read_rooms, B + A + "y\n", 2)
        self.assert_refused(read_rooms, A + "\n\n", 2)


class LeaveTextTest(Refusals):
    def test_a_leave_is_written_as_one_row_without_an_end(self):
        self.assertEqual(show_leave(LEAVE), LEAVE_TEXT)
        self.assertEqual(read_leave(LEAVE_TEXT), LEAVE)
        first = (0, "a", ("set",), "b", "c", 0, 1000000, 6, None)
        text = "leave 0 on a to set from b for c since 0 until 1000000 passes 6 under none"
        self.assertEqual(show_leave(first), text)
        self.assertEqual(read_leave(text), first)
        look = (10, "a", ("look",), "b", "c", 10, 20, 0, 0)
        text = "leave 10 on a to look from b for c since 10 until 20 passes 0 under 0"
        self.assertEqual(show_leave(look), text)
        self.assertEqual(read_leave(text), look)

    def test_names_that_are_words_of_the_row(self):
        leave = (0, "on", ("look",), "from", "none", 0, 1, 0, None)
        self.assertEqual(read_leave(show_leave(leave)), leave)

    def test_many_leaves_are_read_back_to_the_same(self):
        chance = random.Random(7)
        for _ in range(300):
            number = chance.choice((0, 1, 9, 10, chance.randint(2, 999999999)))
            since = chance.choice((0, chance.randint(0, 999999)))
            leave = (
                number,
                chance.choice(("a", "look", "abcdefgh")),
                chance.choice((("look",), ("set",), ("look", "set"))),
                chance.choice(("b", "under", "zzzzzzzz")),
                chance.choice(("c", "since")),
                since,
                chance.choice((since + 1, chance.randint(since + 1, 1000000))),
                chance.randint(0, 6),
                None if number == 0 else chance.choice((None, 0, chance.randint(0, number - 1))),
            )
            self.assertTrue(is_leave(leave))
            self.assertEqual(read_leave(show_leave(leave)), leave)

    def test_other_texts(self):
        self.assert_refused(read_leave, "", 1)
        self.assert_refused(read_leave, "\n", 1)
        self.assert_refused(read_leave, LEAVE_TEXT + "\n", 1)
        self.assert_refused(read_leave, LEAVE_TEXT + "\n" + LEAVE_TEXT, 1)
        self.assert_refused(read_leave, A, 1)
        for many in range(len(LEAVE_TEXT)):
            self.assert_refused(read_leave, LEAVE_TEXT[:many], 1)

    def test_words_that_lack_or_are_too_many(self):
        words = LEAVE_TEXT.split(" ")
        for at in range(len(words)):
            self.assert_refused(read_leave, " ".join(words[:at] + words[at + 1:]), 1)
            self.assert_refused(read_leave, " ".join(words[:at] + [words[at]] + words[at:]), 1)
            self.assert_refused(read_leave, " ".join(words[:at] + [""] + words[at:]), 1)
            self.assert_refused(read_leave, " ".join(words[:at] + ["x1"] + words[at + 1:]), 1)
        self.assert_refused(read_leave, LEAVE_TEXT + " ", 1)
        self.assert_refused(read_leave, LEAVE_TEXT + " under 1", 1)

    def test_parts_that_make_no_leave(self):
        words = LEAVE_TEXT.split(" ")
        for at, wrongs in {
            1: ("-3", "03", "1", "0", "none", "-0", "+3"),
            3: ("Den", "den1", "abcdefghi"),
            5: ("set+look", "look+look", "look+", "+", "look,set", "see", "lookset", "look+set+"),
            7: ("bob", "Ann", "abcdefghi", "1"),
            9: ("ann", "Bob", "abcdefghi", "1"),
            11: ("9", "10", "05", "-0", "-1", "none", "x"),
            13: ("5", "4", "09", "1000001", "none", "x"),
            15: ("7", "02", "-1", "-0", "none", "10"),
            17: ("3", "4", "01", "-1", "-0", "None", "no", "nones", "x"),
        }.items():
            for wrong in wrongs:
                self.assert_refused(read_leave, " ".join(words[:at] + [wrong] + words[at + 1:]), 1)

    def test_words_turned_about(self):
        words = LEAVE_TEXT.split(" ")
        for at in range(0, len(words) - 2, 2):
            turned = list(words)
            turned[at], turned[at + 2] = words[at + 2], words[at]
            self.assert_refused(read_leave, " ".join(turned), 1)


if __name__ == "__main__":
    unittest.main()
