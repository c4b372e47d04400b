"""Point [11]: the texts of programs, and the field of their refusals."""

import itertools
import re
import unittest

from leavechain.errors import NoText
from leavechain.programs import read_program

ROW_WORDS = (
    "look set as to give on since until passes take let be rest when else end times now missed"
).split(" ")
REST = (("rest",),)
GIVE = "give look on den to bob since 0 until 1 passes 2 as x"


def read_step(row):
    """The only step of a program of one row."""
    steps = read_program(row + "\n")
    assert len(steps) == 1 and steps[0][1] == 1
    return steps[0][0]


class ProgramTest(unittest.TestCase):
    def assert_refused(self, text, row):
        with self.subTest(text=text):
            with self.assertRaises(NoText) as caught:
                read_program(text)
            self.assertEqual(caught.exception.row, row)

    def assert_no_row(self, row):
        """That a row is refused by itself, and behind right ones, by its number."""
        self.assert_refused(row + "\n", 1)
        self.assert_refused("rest\nrest\n" + row + "\nrest\n", 3)
        self.assert_refused("when now\n" + row + "\n", 2)
        if row:
            self.assert_refused("rest\n" + row, 2)


class RowsTest(ProgramTest):
    def test_each_kind_of_row(self):
        for row, step in (
            ("look den as x", ("look", "den", "x")),
            ("set den to 5", ("set", "den", ("num", 5))),
            ("set den to x + 1", ("set", "den", ("+", ("local", "x"), ("num", 1)))),
            (
                GIVE,
                ("give", ("look",), "den", "bob", ("num", 0), ("num", 1), ("num", 2), "x"),
            ),
            (
                "give look+set on den to bob since now until now + 5 passes a - b as x",
                (
                    "give", ("look", "set"), "den", "bob", ("now",),
                    ("+", ("now",), ("num", 5)), ("-", ("local", "a"), ("local", "b")), "x",
                ),
            ),
            (
                "give set on a to b since a < b until 3 passes missed = 0 as abcdefgh",
                (
                    "give", ("set",), "a", "b", ("<", ("local", "a"), ("local", "b")),
                    ("num", 3), ("=", ("missed",), ("num", 0)), "abcdefgh",
                ),
            ),
            ("take 0", ("take", ("num", 0))),
            ("take x * x", ("take", ("*", ("local", "x"), ("local", "x")))),
            ("let x be missed", ("let", "x", ("missed",))),
            ("let x be now < y", ("let", "x", ("<", ("now",), ("local", "y")))),
            ("rest", ("rest",)),
        ):
            with self.subTest(row=row):
                self.assertEqual(read_step(row), step)

    def test_each_sign(self):
        for sign in "+-*<=":
            self.assertEqual(
                read_step(f"take now {sign} missed"), ("take", (sign, ("now",), ("missed",))),
            )
        for sign in ("/", ">", "==", "<=", "++", "and", "", ".", "x", "0", "to"):
            self.assert_no_row(f"take now {sign} missed")

    def test_blanks_at_the_beginning_of_a_row(self):
        self.assertEqual(read_program("  rest\n rest\n" + " " * 500 + "rest\n"),
                         ((("rest",), 1), (("rest",), 2), (("rest",), 3)))
        self.assertEqual(read_program("  when now\n    rest\n   else\n rest\n  end\n"),
                         ((("when", ("now",)), (1, 2)), (("rest",), 3), (("rest",), 3)))

    def test_blanks_elsewhere(self):
        for row in (
            "rest ", "look  den as x", "look den  as x", "look den as  x", "look den as x ",
            "set den to  5", "set den to 5 ", "take now+1", "take now +1", "take now  + 1",
            "take now +  1", "take now + 1 ", "take ", "when ", "when  now", "times  2",
            "let x be  1", "let  x be 1", "give look + set on a to b since 0 until 1 passes 0 as x",
            "\trest", "rest\t", "look\tden as x", "look den\tas x",
        ):
            self.assert_no_row(row)

    def test_rows_of_blanks_alone_or_empty(self):
        for row in ("", " ", "     "):
            self.assert_refused(row + "\n", 1)
            self.assert_refused("rest\n" + row + "\n", 2)
            self.assert_refused("rest\n" + row + "\nrest\n", 2)
        self.assert_refused("\n\n", 1)
        self.assert_refused(" ", 1)
        self.assert_refused("rest\n  ", 2)
        self.assertEqual(read_program("rest\n"), ((("rest",), 1),))

    def test_words_that_lack_or_are_too_many(self):
        for row in ("look den as x", "set den to 5", GIVE, "take 5", "let x be 5", "rest"):
            words = row.split(" ")
            for at in range(len(words)):
                self.assert_no_row(" ".join(words[:at] + words[at + 1:]))
                self.assert_no_row(" ".join(words[:at] + ["?"] + words[at:]))
                self.assert_no_row(" ".join(words[:at] + [words[at]] + words[at:]))
            self.assert_no_row(row + " 1")
            self.assert_no_row(row + " +")
        self.assert_no_row("look den as x + 1")
        self.assert_no_row("rest + 1")
        self.assert_no_row("take 1 + 2 + 3")
        self.assert_no_row("take 1 +")
        self.assert_no_row("take + 1")
        self.assert_no_row("take 1 2")
        self.assert_no_row("take 1 2 3")

    def test_other_first_words(self):
        for row in ("see den as x", "Rest", "REST", "restrest", "5", "x", "x = 5", "look", "to",
                    "as", "leave 0 on a", "room a of b holds 1", "now", "+", "# rest"):
            self.assert_no_row(row)

    def test_right_words_elsewhere_than_they_stand(self):
        for row in (
            "look den to x", "look den be x", "set den as 5", "set den be 5", "let x to 5",
            "let x as 5", "give look in den to bob since 0 until 1 passes 2 as x",
            "give look on den for bob since 0 until 1 passes 2 as x",
            "give look on den to bob until 0 since 1 passes 2 as x",
            "give look on den to bob since 0 until 1 as x passes 2",
            "give look on den to bob since 0 until 1 passes 2 to x",
            "give on den look to bob since 0 until 1 passes 2 as x",
        ):
            self.assert_no_row(row)

    def test_deeds(self):
        for word in ("set+look", "look+look", "see", "look+", "+set", "look,set", "lookset", "1",
                     "look+set+look", "Look", "", "den"):
            self.assert_no_row(f"give {word} on den to bob since 0 until 1 passes 2 as x")

    def test_rooms_and_names(self):
        for name in ("Den", "den1", "abcdefghi", "5", "", "d-n", "now+", "den."):
            self.assert_no_row(f"look {name} as x")
            self.assert_no_row(f"set {name} to 1")
            self.assert_no_row(f"give look on {name} to bob since 0 until 1 passes 2 as x")
            self.assert_no_row(f"give look on den to {name} since 0 until 1 passes 2 as x")
        self.assertEqual(read_step("look abcdefgh as x"), ("look", "abcdefgh", "x"))

    def test_locals(self):
        for name in ("X", "x1", "abcdefghi", "", "x_y", "5", "-x"):
            self.assert_no_row(f"look den as {name}")
            self.assert_no_row(f"let {name} be 1")
            if name != "5":
                self.assert_no_row(f"take {name}")
                self.assert_no_row(f"take 1 + {name}")
                self.assert_no_row(f"take {name} + 1")
        for name in ("x", "abcdefgh", "of", "room", "holds", "leave", "from", "none", "num"):
            self.assertEqual(read_step(f"look den as {name}"), ("look", "den", name))
            self.assertEqual(read_step(f"take {name}"), ("take", ("local", name)))

    def test_each_word_of_the_rows_as_a_local(self):
        self.assertEqual(len(set(ROW_WORDS)), 19)
        for word in ROW_WORDS:
            self.assert_no_row(f"look den as {word}")
            self.assert_no_row(f"let {word} be 1")
            self.assert_no_row(f"give look on den to bob since 0 until 1 passes 2 as {word}")
            if word in ("now", "missed"):
                self.assertEqual(read_step(f"take {word}"), ("take", (word,)))
                continue
            self.assert_no_row(f"take {word}")
            self.assert_no_row(f"take {word} + 1")
            self.assert_no_row(f"take 1 + {word}")
            self.assert_no_row(f"when {word}")
            self.assert_no_row(f"set den to {word}")
            self.assert_no_row(f"let x be {word}")
            self.assert_no_row(f"give look on den to bob since {word} until 1 passes 2 as x")
            self.assert_no_row(f"give look on den to bob since 0 until {word} passes 2 as x")
            self.assert_no_row(f"give look on den to bob since 0 until 1 passes {word} as x")

    def test_each_word_of_the_rows_as_a_room_and_a_name(self):
        for word in ROW_WORDS:
            self.assertEqual(read_step(f"look {word} as x"), ("look", word, "x"))
            self.assertEqual(read_step(f"set {word} to 1"), ("set", word, ("num", 1)))
            self.assertEqual(
                read_step(f"give look on {word} to {word} since 0 until 1 passes 2 as x")[2:4],
                (word, word),
            )

    def test_numbers(self):
        for word in ("0", "1", "10", "999999999", "100000000"):
            self.assertEqual(read_step(f"take {word}"), ("take", ("num", int(word))))
            self.assertEqual(
                read_step(f"take {word} - {word}"),
                ("take", ("-", ("num", int(word)), ("num", int(word)))),
            )
        for word in ("1000000000", "9999999999", "00", "01", "0999999999", "-1", "-0", "+1",
                     "1.0", "1e3", "1_0", "0x1", "9" * 900):
            self.assert_no_row(f"take {word}")
            self.assert_no_row(f"take x + {word}")
            self.assert_no_row(f"take {word} + x")


class BlocksTest(ProgramTest):
    def test_times_from_1_to_5(self):
        for many in range(1, 6):
            steps = read_program(f"times {many}\nrest\nend\n")
            self.assertEqual(steps, tuple((("rest",), at + 1) for at in range(many)))
        for word in ("0", "6", "10", "01", "-1", "x", "now", "", "1 + 1", "five", "2.0"):
            self.assert_no_row(f"times {word}")
        self.assert_no_row("times")

    def test_times_of_several_rows_are_laid_out_one_behind_the_other(self):
        self.assertEqual(
            read_program("times 2\ntake 1\ntake 2\nend\nrest\n"),
            (
                (("take", ("num", 1)), 1), (("take", ("num", 2)), 2),
                (("take", ("num", 1)), 3), (("take", ("num", 2)), 4), (("rest",), 5),
            ),
        )

    def test_times_within_times(self):
        rows = "times 2\ntake 1\ntimes 3\nrest\nend\nend\n"
        said = [step[0] for step, _ in read_program(rows)]
        self.assertEqual(said, (["take"] + ["rest"] * 3) * 2)

    def test_whens_without_rows(self):
        when = ("when", ("now",))
        self.assertEqual(read_program("when now\nend\n"), ((when, (1, 1)),))
        self.assertEqual(read_program("when now\nelse\nend\n"), ((when, (1, 1)),))

    def test_times_without_rows(self):
        self.assertEqual(read_program("times 3\nend\nrest\n"), ((("rest",), 1),))
        self.assertEqual(read_program("rest\ntimes 3\ntimes 2\nend\nend\n"), ((("rest",), 1),))

    def test_an_end_or_an_else_too_many(self):
        self.assert_refused("end\n", 1)
        self.assert_refused("else\n", 1)
        self.assert_refused("rest\nend\n", 2)
        self.assert_refused("rest\nelse\n", 2)
        self.assert_refused("when now\nend\nend\n", 3)
        self.assert_refused("when now\nend\nelse\nend\n", 3)
        self.assert_refused("when now\nelse\nelse\nend\n", 3)
        self.assert_refused("when now\nelse\nend\nend\n", 4)
        self.assert_refused("times 2\nelse\nend\n", 2)
        self.assert_refused("times 2\nend\nend\n", 3)
        self.assert_refused("when now\ntimes 2\nelse\nend\nend\n", 3)
        self.assert_refused("when now\nelse\nwhen now\nelse\nend\nelse\nend\n", 6)

    def test_words_behind_else_end_and_rest(self):
        for word in ("else", "end", "rest"):
            self.assert_refused(f"when now\n{word} 1\nend\n", 2)
            self.assert_refused(f"when now\n{word} \nend\n", 2)

    def test_rows_that_lack(self):
        self.assert_refused("when now\n", 2)
        self.assert_refused("times 2\n", 2)
        self.assert_refused("when now\nrest\n", 3)
        self.assert_refused("when now\nelse\n", 3)
        self.assert_refused("when now\nwhen now\nend\n", 4)
        self.assert_refused("rest\ntimes 2\nrest\nwhen now\nelse\nend\n", 7)

    def test_a_last_row_without_its_end(self):
        self.assert_refused("rest", 2)
        self.assert_refused("rest\nrest", 3)
        self.assert_refused("when now\nend", 3)
        self.assert_refused("when now\nrest", 3)
        self.assert_refused("when now", 2)
        self.assert_refused("take 1", 2)
        self.assert_refused("take 1 + x", 2)

    def test_a_last_row_that_is_but_the_beginning_of_a_right_one(self):
        self.assert_refused("res", 1)
        self.assert_refused("rest\ntake", 2)
        self.assert_refused("rest\ntake ", 2)
        self.assert_refused("take 1 ", 1)
        self.assert_refused("take 1 +", 1)
        self.assert_refused("take 1 + ", 1)
        self.assert_refused("when now\nen", 2)
        self.assert_refused("look den as", 1)
        self.assert_refused("times ", 1)

    def test_a_last_row_without_its_end_that_is_not_right_there(self):
        self.assert_refused("end", 1)
        self.assert_refused("rest\nend", 2)
        self.assert_refused("rest\nelse", 2)
        self.assert_refused("rest\nrest!", 2)
        self.assert_refused("when now\n" * 6 + "when now", 7)

    def test_six_deep_and_seven_deep(self):
        for row in ("when now\n", "times 1\n"):
            rows = row * 6 + "rest\n" + "end\n" * 6
            self.assertEqual(read_program(rows)[-1][0], ("rest",))
            self.assert_refused(row * 7 + "rest\n" + "end\n" * 7, 7)
            self.assert_refused(row * 8, 7)
            self.assert_refused(row * 6, 7)
        mixed = "when now\ntimes 1\n" * 3 + "rest\n"
        self.assertEqual(len(read_program(mixed + "end\n" * 6)), 4)
        self.assert_refused(mixed + "times 1\nend\n" + "end\n" * 6, 8)
        self.assert_refused("when now\nelse\n" * 6 + "when now\nend\n" + "end\n" * 6, 13)
        self.assertEqual(len(read_program("when now\nelse\n" * 6 + "end\n" * 6)), 6)
        beside = "when now\nend\ntimes 1\nend\n" * 7
        self.assertEqual(len(read_program(beside)), 7)

    def test_forty_steps_and_forty_one(self):
        self.assertEqual(len(read_program("rest\n" * 40)), 40)
        self.assert_refused("rest\n" * 41, 0)
        self.assertEqual(len(read_program("times 5\n" + "rest\n" * 8 + "end\n")), 40)
        self.assert_refused("times 5\n" + "rest\n" * 8 + "end\nrest\n", 0)
        self.assertEqual(len(read_program("times 5\nwhen now\n" + "rest\n" * 7 + "end\nend\n")), 40)
        self.assert_refused("times 5\nwhen now\n" + "rest\n" * 8 + "end\nend\n", 0)
        whens = "times 5\nwhen now\nelse\n"
        self.assertEqual(len(read_program(whens + "rest\n" * 7 + "end\nend\n")), 40)
        self.assert_refused(whens + "rest\n" * 8 + "end\nend\n", 0)
        self.assertEqual(len(read_program("times 5\ntimes 4\nrest\nrest\nend\nend\n")), 40)
        self.assert_refused("times 5\ntimes 3\nrest\nrest\nrest\nend\nend\n", 0)

    def test_very_many_steps(self):
        rows = "times 5\n" * 6 + "rest\n" * 2000 + "end\n" * 6
        self.assert_refused(rows, 0)
        self.assert_refused(rows * 10, 0)
        empty = "times 5\n" * 6 + "end\n" * 6
        self.assert_refused(empty * 2000, 0)
        self.assertEqual(read_program(empty * 2000 + "rest\n"), ((("rest",), 1),))

    def test_no_step_at_all(self):
        self.assert_refused("", 0)
        self.assert_refused("times 2\nend\n", 0)
        self.assert_refused("times 1\ntimes 5\nend\nend\ntimes 3\nend\n", 0)

    def test_too_many_steps_beside_other_faults(self):
        self.assert_refused("rest\n" * 41 + "rust\n", 42)
        self.assert_refused("rest\n" * 41 + "end\n", 42)
        self.assert_refused("rest\n" * 41 + "when now\n", 43)
        self.assert_refused("rest\n" * 40 + "rest", 42)
        self.assert_refused("times 2\n", 2)
        self.assert_refused("times 2\nend", 3)
        self.assert_refused("times 2\nend\n ", 3)

    def test_the_first_of_several_wrong_rows(self):
        self.assert_refused("rest\nrust\nroost\n", 2)
        self.assert_refused("rest\nend\nrust\n", 2)
        self.assert_refused("when now\nrust\n", 2)

    def test_told_steps_are_tuples_throughout(self):
        things = [read_program("when now\ntake x + 1\nelse\n" + GIVE + "\nend\n")]
        while things:
            thing = things.pop()
            self.assertIn(type(thing), (tuple, int, str))
            if isinstance(thing, tuple):
                things.extend(thing)


class AllFieldsTest(ProgramTest):
    """The field against [6]'s words, over all short texts of some rows."""

    SIGNS = {"r": "rest", "w": "when now", "t": "times 2", "l": "else", "e": "end", "b": "bad"}

    def is_whole(self, signs):
        """Whether rows make a text that no row lacks: whens and times are folded to a rest."""
        while True:
            folded = re.sub("wr*(lr*)?e|tr*e", "r", signs)
            if folded == signs:
                return re.fullmatch("r*", signs) is not None
            signs = folded

    def test_all_texts_of_up_to_four_rows(self):
        beginnings = {""}
        for many in range(1, 9):
            for signs in itertools.product("rwtle", repeat=many):
                text = "".join(signs)
                # Four rows can be ended by four more, so longer texts are not needed.
                if text[:4] not in beginnings and self.is_whole(text):
                    beginnings.update(text[:upto] for upto in range(5))
        for many in range(5):
            for signs in itertools.product(self.SIGNS, repeat=many):
                text = "".join(signs)
                right = [text[:upto] in beginnings for upto in range(many + 1)]
                field = right.index(False) if False in right else many + 1
                rows = "".join(self.SIGNS[sign] + "\n" for sign in text)
                if many:
                    self.assert_refused(rows[:-1], field)
                if field <= many or not self.is_whole(text):
                    self.assert_refused(rows, field)
                elif set(text) <= set("te"):
                    self.assert_refused(rows, 0)
                else:
                    self.assertGreater(len(read_program(rows)), 0)


if __name__ == "__main__":
    unittest.main()
