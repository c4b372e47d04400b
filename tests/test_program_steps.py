"""Point [12]: the steps of programs, their texts, and the longest way."""

import random
import unittest

from leavechain.programs import is_steps, most_steps, read_program, show_program

NOW = ("now",)
X = ("local", "x")
ONE = ("num", 1)
GIVE = ("give", ("look",), "den", "bob", ("num", 0), ("num", 1), ("num", 2), "x")
GIVE_ROW = "give look on den to bob since 0 until 1 passes 2 as x"


def take(number):
    """The step that the row take NUMBER is read to."""
    return ("take", ("num", number))


def alone(step):
    """The step as a program's only one."""
    return ((step, (1, 1) if step[:1] == ("when",) else 1),)


class StepsTest(unittest.TestCase):
    def test_steps_in_a_row(self):
        self.assertEqual(
            read_program("look den as x\nset den to x\ntake 1\n"),
            ((("look", "den", "x"), 1), (("set", "den", X), 2), (("take", ONE), 3)),
        )

    def test_a_when_with_else(self):
        self.assertEqual(
            read_program("when x\ntake 1\ntake 2\nelse\ntake 3\ntake 4\nend\ntake 5\n"),
            (
                (("when", X), (1, 3)), (take(1), 2), (take(2), 5), (take(3), 4), (take(4), 5),
                (take(5), 6),
            ),
        )

    def test_a_when_without_else(self):
        self.assertEqual(
            read_program("take 0\nwhen x < 1\ntake 1\nend\ntake 2\n"),
            ((take(0), 1), (("when", ("<", X, ONE)), (2, 3)), (take(1), 3), (take(2), 4)),
        )
        self.assertEqual(
            read_program("when x\ntake 1\nelse\nend\n"), ((("when", X), (1, 2)), (take(1), 2)),
        )

    def test_a_when_with_rows_behind_else_alone(self):
        self.assertEqual(
            read_program("when x\nelse\ntake 1\nend\ntake 2\n"),
            ((("when", X), (2, 1)), (take(1), 2), (take(2), 3)),
        )

    def test_a_when_of_no_rows(self):
        self.assertEqual(read_program("when x\nend\n"), ((("when", X), (1, 1)),))
        self.assertEqual(
            read_program("when x\nelse\nend\nrest\n"), ((("when", X), (1, 1)), (("rest",), 2)),
        )

    def test_whens_within_whens(self):
        self.assertEqual(
            read_program(
                "when x\nwhen now\ntake 1\nend\nelse\nwhen now\nelse\ntake 2\nend\nend\ntake 3\n"
            ),
            (
                (("when", X), (1, 3)),
                (("when", NOW), (2, 5)),
                (take(1), 5),
                (("when", NOW), (5, 4)),
                (take(2), 5),
                (take(3), 6),
            ),
        )

    def test_a_when_of_no_rows_at_the_end_of_a_branch(self):
        self.assertEqual(
            read_program("when x\nwhen now\nend\nelse\ntake 1\nend\ntake 2\n"),
            ((("when", X), (1, 2)), (("when", NOW), (3, 3)), (take(1), 3), (take(2), 4)),
        )
        self.assertEqual(
            read_program("when x\nwhen now\nend\nelse\ntake 1\nend\n"),
            ((("when", X), (1, 2)), (("when", NOW), (3, 3)), (take(1), 3)),
        )

    def test_times_round_whens(self):
        self.assertEqual(
            read_program("times 2\nwhen x\ntake 1\nend\nend\ntake 2\n"),
            (
                (("when", X), (1, 2)), (take(1), 2), (("when", X), (3, 4)), (take(1), 4),
                (take(2), 5),
            ),
        )

    def test_times_within_whens(self):
        self.assertEqual(
            read_program("when x\ntimes 2\ntake 1\nend\nelse\ntimes 2\ntake 2\nend\nend\n"),
            (
                (("when", X), (1, 3)), (take(1), 2), (take(1), 5), (take(2), 4), (take(2), 5),
            ),
        )
        self.assertEqual(
            read_program("when x\ntimes 2\nend\nelse\ntimes 2\nend\nend\n"),
            ((("when", X), (1, 1)),),
        )


class WritingTest(unittest.TestCase):
    def assert_reads_back(self, text):
        with self.subTest(text=text):
            steps = read_program(text)
            written = show_program(steps)
            self.assertIsInstance(written, str)
            self.assertEqual(read_program(written), steps)

    def test_each_kind_of_step(self):
        for row in (
            "look den as x", "set den to 0", "set den to missed", GIVE_ROW,
            "give look+set on a to b since now until now + 5 passes x * y as abcdefgh",
            "take 999999999", "take x - 1", "let x be a < b", "let x be now = 0", "rest",
        ):
            self.assert_reads_back(row + "\n")
            self.assertEqual(show_program(read_program(row + "\n")).strip(), row)

    def test_whens(self):
        for text in (
            "when x\nend\n",
            "when x\nelse\nend\n",
            "when x\nend\nrest\n",
            "when x\nrest\nend\n",
            "when x\nelse\nrest\nend\n",
            "when x\nrest\nelse\nrest\nend\nrest\n",
            "when x\nwhen x\nend\nend\n",
            "when x\nwhen x\nend\nelse\nrest\nend\n",
            "when x\nwhen x\nend\nelse\nwhen x\nend\nend\nrest\n",
            "when x\nrest\nwhen x\nelse\nrest\nend\nelse\nrest\nwhen x\nrest\nend\nend\n",
            "when x\nwhen x\nrest\nend\nelse\nend\n",
            "when x\nelse\nwhen x\nwhen x\nelse\nend\nend\nend\nwhen x\nend\n",
            "when x\n" * 6 + "end\n" * 6,
            "when x\nelse\n" * 6 + "rest\n" + "end\n" * 6,
            "times 5\nwhen x\ntimes 2\nrest\nend\nelse\ntimes 4\nrest\nend\nend\nend\n",
        ):
            self.assert_reads_back(text)

    def test_steps_that_are_handed_in_stay(self):
        steps = read_program("when x\nrest\nend\n")
        show_program(steps)
        most_steps(steps)
        is_steps(steps)
        self.assertEqual(steps, ((("when", X), (1, 2)), (("rest",), 2)))


def all_texts(many):
    """All texts of many steps, of rests and whens."""
    if many == 0:
        return [""]
    texts = ["rest\n" + rest for rest in all_texts(many - 1)]
    for first in range(many):
        for second in range(many - first):
            for then in all_texts(first):
                for other in all_texts(second):
                    for rest in all_texts(many - 1 - first - second):
                        texts.append(f"when x\n{then}else\n{other}end\n{rest}")
    return texts


class AllTextsTest(unittest.TestCase):
    def test_all_texts_of_up_to_five_steps_are_written_so_that_they_read_back(self):
        for many in range(1, 6):
            for text in all_texts(many):
                steps = read_program(text)
                self.assertEqual(len(steps), many)
                self.assertEqual(read_program(show_program(steps)), steps)
                without_else = text.replace("else\nend\n", "end\n")
                self.assertEqual(read_program(without_else), steps)


class Chance:
    """Programs by chance, as nested lists, with what they come to."""

    def __init__(self, seed):
        self.chance = random.Random(seed)
        self.many = 0

    def block(self, deep):
        """Rows as a list: a number for take NUMBER, or a tuple for a when or times."""
        rows = []
        for _ in range(self.chance.choice((0, 1, 1, 2, 3))):
            kind = self.chance.choice(("take", "take", "when", "when", "times"))
            if deep == 6 or kind == "take":
                self.many += 1
                rows.append(self.many)
            elif kind == "when":
                has_else = self.chance.choice((True, False))
                other = self.block(deep + 1) if has_else else None
                rows.append(("when", self.block(deep + 1), other))
            else:
                rows.append(("times", self.chance.randint(1, 3), self.block(deep + 1)))
        return rows


def chooser(seed):
    """Truths by chance, the same ones for the same seed."""
    chance = random.Random(seed)
    return lambda: chance.random() < 0.5


def block_text(rows):
    """The text of rows that were made by chance."""
    text = ""
    for row in rows:
        if isinstance(row, int):
            text += f"take {row}\n"
        elif row[0] == "times":
            text += f"times {row[1]}\n" + block_text(row[2]) + "end\n"
        else:
            other = "" if row[2] is None else "else\n" + block_text(row[2])
            text += "when x\n" + block_text(row[1]) + other + "end\n"
    return text


def laid_out(rows):
    """All steps of the rows, as they stand when times are laid out."""
    told = []
    for row in rows:
        if isinstance(row, int):
            told.append(take(row))
        elif row[0] == "times":
            told.extend(laid_out(row[2]) * row[1])
        else:
            told.append(("when", X))
            told.extend(laid_out(row[1]) + laid_out(row[2] or []))
    return told


def gone(rows, choose):
    """The steps that are gone when choose tells each when's worth."""
    told = []
    for row in rows:
        if isinstance(row, int):
            told.append(take(row))
        elif row[0] == "times":
            for _ in range(row[1]):
                told.extend(gone(row[2], choose))
        else:
            told.append(("when", X))
            told.extend(gone(row[1] if choose() else row[2] or [], choose))
    return told


def gone_steps(steps, choose):
    """The same from steps."""
    told = []
    at = 0
    while at < len(steps):
        step, follow = steps[at]
        told.append(step)
        if step[0] == "when":
            follow = follow[0] if choose() else follow[1]
        at = follow
    return told


def longest(rows):
    """How many steps the longest way through the rows has."""
    many = 0
    for row in rows:
        if isinstance(row, int):
            many += 1
        elif row[0] == "times":
            many += row[1] * longest(row[2])
        else:
            many += 1 + max(longest(row[1]), longest(row[2] or []))
    return many


class ByChanceTest(unittest.TestCase):
    def test_programs_by_chance(self):
        tried = 0
        for seed in range(3000):
            rows = Chance(seed).block(0)
            steps_laid_out = laid_out(rows)
            if not 1 <= len(steps_laid_out) <= 40:
                continue
            tried += 1
            steps = read_program(block_text(rows))
            self.assertEqual([step for step, _ in steps], steps_laid_out)
            self.assertIs(is_steps(steps), True)
            self.assertEqual(read_program(show_program(steps)), steps)
            self.assertEqual(most_steps(steps), longest(rows))
            for way in range(8):
                expected = gone(rows, chooser(way))
                self.assertEqual(gone_steps(steps, chooser(way)), expected)
        self.assertGreater(tried, 1000)


class LikeAll:
    """A thing that calls itself like anything else."""

    def __eq__(self, other):
        return True

    def __hash__(self):
        return hash("rest")


class IsStepsTest(unittest.TestCase):
    def assert_steps(self, thing):
        with self.subTest(right=thing):
            self.assertIs(is_steps(thing), True)

    def assert_no_steps(self, thing):
        with self.subTest(wrong=thing):
            self.assertIs(is_steps(thing), False)

    def test_each_kind_of_step(self):
        for step in (
            ("look", "den", "x"), ("set", "den", X), GIVE, take(0), ("let", "x", NOW), ("rest",),
            ("when", X), ("look", "look", "x"), ("set", "to", ("missed",)),
        ):
            self.assert_steps(alone(step))

    def test_parts_more_or_fewer(self):
        for step in (
            ("look", "den", "x"), ("set", "den", X), GIVE, take(0), ("let", "x", NOW), ("rest",),
            ("when", X),
        ):
            self.assert_no_steps(alone(step[:-1]))
            self.assert_no_steps(alone(step + (X,)))
            self.assert_no_steps(alone(step + ("x",)))
            self.assert_no_steps((list(alone(step)[0]),))
            self.assert_no_steps(((list(step), alone(step)[0][1]),))
            self.assert_no_steps([*alone(step)])
            self.assert_no_steps((alone(step)[0] + (1,),))
            self.assert_no_steps((alone(step)[0][:1],))

    def test_words_that_are_no_steps(self):
        for step in (
            ("times", 2), ("times", ("num", 2)), ("else",), ("end",), ("wait",), (), (1,), (None,),
            ("REST",), (b"rest",), (("rest",),), "rest", ("miss",), (["rest"],), None, 5,
            LikeAll(), (LikeAll(),), (LikeAll(), X),
        ):
            self.assert_no_steps(((step, 1),))

    def test_rooms_names_and_locals(self):
        for wrong in ("Den", "", "abcdefghi", "a1", None, 1, True, ("den",), ["den"], b"den"):
            self.assert_no_steps(alone(("look", wrong, "x")))
            self.assert_no_steps(alone(("look", "den", wrong)))
            self.assert_no_steps(alone(("set", wrong, X)))
            self.assert_no_steps(alone(("let", wrong, X)))
            self.assert_no_steps(alone(take(0)[:1] + (("local", wrong),)))
            for at in (2, 3, 7):
                self.assert_no_steps(alone(GIVE[:at] + (wrong,) + GIVE[at + 1:]))
        for word in ("look", "as", "end", "now", "missed", "times"):
            self.assert_no_steps(alone(("look", "den", word)))
            self.assert_no_steps(alone(("let", word, X)))
            self.assert_no_steps(alone(GIVE[:7] + (word,)))
            self.assert_no_steps(alone(("take", ("local", word))))

    def test_deeds(self):
        for deeds in (("look",), ("set",), ("look", "set")):
            self.assert_steps(alone(GIVE[:1] + (deeds,) + GIVE[2:]))
        for deeds in ((), ("set", "look"), ["look"], "look", "look+set", None, ("look", "look")):
            self.assert_no_steps(alone(GIVE[:1] + (deeds,) + GIVE[2:]))

    def test_what_is_reckoned(self):
        right = (
            ("num", 0), ("num", 999999999), X, NOW, ("missed",), ("+", X, ONE), ("-", ONE, NOW),
            ("*", NOW, NOW), ("<", ("missed",), X), ("=", X, X),
        )
        wrong = (
            ("num", -1), ("num", 1000000000), ("num", True), ("num", "1"), ("num",), ("num", 1, 1),
            ("num", 1.0), ("num", None), ("now", 1), ("missed", 0), ("local",), ("local", "x", "y"),
            ("local", 1), ("nums", 1), (), ("x",), ("+",), ("+", X), ("+", X, ONE, ONE),
            ("/", X, ONE), ("==", X, X), ("<=", X, X), ("+", ("+", X, X), X), ("+", X, ("+", X, X)),
            ("+", X, 1), ("+", 1, X), (X, "+", X), ("+", [*X], X), ("+", X, [*X]), [*X], [*NOW],
            ["+", X, ONE], "now", "x", 1, 0, None, True, (None,), (1,), (1, 2), ("", "x"),
            (["+"], X, X), (None, X, X), ("num", ("num", 1)), ({}, "x"),
            LikeAll(), (LikeAll(),), (LikeAll(), 1), (LikeAll(), "x"), ("num", LikeAll()),
            ("local", LikeAll()), (LikeAll(), X, ONE), ("+", LikeAll(), X), ("+", X, LikeAll()),
        )
        for e in right:
            self.assert_steps(alone(("take", e)))
            self.assert_steps(alone(("set", "den", e)))
            self.assert_steps(alone(("let", "x", e)))
            self.assert_steps(alone(("when", e)))
            for at in (4, 5, 6):
                self.assert_steps(alone(GIVE[:at] + (e,) + GIVE[at + 1:]))
        for e in wrong:
            self.assert_no_steps(alone(("take", e)))
            self.assert_no_steps(alone(("set", "den", e)))
            self.assert_no_steps(alone(("let", "x", e)))
            self.assert_no_steps(alone(("when", e)))
            for at in (4, 5, 6):
                self.assert_no_steps(alone(GIVE[:at] + (e,) + GIVE[at + 1:]))

    def test_one_to_forty(self):
        self.assert_no_steps(())
        self.assert_steps(tuple((("rest",), at + 1) for at in range(40)))
        self.assert_no_steps(tuple((("rest",), at + 1) for at in range(41)))

    def test_what_comes_then(self):
        rest = ("rest",)
        self.assert_steps(((rest, 1), (rest, 2)))
        self.assert_steps(((rest, 2), (rest, 2)))
        for then in (0, 3, -1, True, None, "1", 1.0, (1,), (1, 2), [1], ()):
            self.assert_no_steps(((rest, then), (rest, 2)))
        for then in (1, 0, 3, True):
            self.assert_no_steps(((rest, 1), (rest, then)))
        self.assert_no_steps(((rest, True),))
        self.assert_steps(((rest, 1),))

    def test_what_comes_then_of_a_when(self):
        when, rest = ("when", X), (("rest",), 2)
        for then in ((1, 1), (1, 2), (2, 1), (2, 2)):
            self.assert_steps(((when, then), rest))
        for then in (
            1, 2, (1,), (1, 2, 2), (), [1, 2], (0, 1), (1, 0), (3, 1), (1, 3), (True, 1),
            (1, True), (None, 1), (1, None), None, ("1", "2"), ((1,), 1), (-1, 1),
        ):
            self.assert_no_steps(((when, then), rest))

    def test_one_wrong_step_of_several(self):
        right = [(("rest",), at + 1) for at in range(5)]
        for at in range(5):
            for wrong in (("rest",), (("rest",), at), (("rust",), at + 1), None, ()):
                self.assert_no_steps(tuple(right[:at] + [wrong] + right[at + 1:]))

    def test_steps_need_not_be_those_of_a_text(self):
        self.assert_steps(((("rest",), 2), (("rest",), 3), (("rest",), 3)))

    def test_of_anything(self):
        deep = ()
        for _ in range(99):
            deep = (deep, [deep])[:1]
        for thing in (
            None, True, 0, 5, 1.5, "", "rest\n", b"rest", [], {}, set(), object(), int, (None,),
            (1,), ("rest",), (("rest",),), ((),), ([],), deep, (deep,), ((deep, 1),),
            ((("take", deep), 1),), {0: (("rest",), 1)}, range(3), [(("rest",), 1)],
            LikeAll(), (LikeAll(),), ((("rest",), LikeAll()),), ((("when", X), LikeAll()),),
            ((("when", X), (LikeAll(), 1)),),
        ):
            self.assert_no_steps(thing)

    def test_what_is_handed_in_stays(self):
        thing = [(["rest"], [1])]
        is_steps(thing)
        self.assertEqual(thing, [(["rest"], [1])])


class MostStepsTest(unittest.TestCase):
    def test_the_longest_way(self):
        for text, most in (
            ("rest\n", 1),
            ("rest\n" * 40, 40),
            ("when x\nend\n", 1),
            ("when x\nrest\nend\n", 2),
            ("when x\nelse\nrest\nrest\nend\nrest\n", 4),
            ("when x\nrest\nrest\nelse\nrest\nend\nrest\n", 4),
            ("when x\nrest\nelse\nrest\nrest\nrest\nend\n", 4),
            ("times 5\nwhen x\nrest\nelse\nrest\nend\nend\n", 10),
            ("when x\nwhen x\nrest\nend\nelse\nrest\nend\nrest\n", 4),
            ("rest\nwhen 0\nrest\nrest\nend\n", 4),
        ):
            with self.subTest(text=text):
                self.assertEqual(most_steps(read_program(text)), most)

    def test_the_longest_way_of_steps_that_stand_in_no_text(self):
        rest, when = ("rest",), ("when", X)
        self.assertEqual(most_steps(((rest, 2), (rest, 3), (rest, 3))), 2)
        self.assertEqual(most_steps(((rest, 3), (rest, 3), (rest, 3))), 1)
        self.assertEqual(most_steps(((when, (1, 3)), (rest, 3), (rest, 3))), 2)
        self.assertEqual(most_steps(((when, (3, 1)), (rest, 2), (rest, 3))), 3)


if __name__ == "__main__":
    unittest.main()
