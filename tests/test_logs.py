"""Point [16]: logs told again from their bare rows, and logs that hold."""

import copy
import decimal
import fractions
import unittest
import unittest.mock

from leavechain.errors import HallError, NoLog
from leavechain.logs import bare, log_holds, told_log
from test_hall import gone, steps

ROOMS = {"den": ("ann", 5), "attic": ("zoe", -7)}
LOOK, SET, BOTH = ("look",), ("set",), ("look", "set")

# A hall in which each kind of row comes about.
PROGRAMS = {
    "ann": steps(
        "give look+set on den to bob since 0 until 9 passes 2 as n",
        "look den as x",
        "set den to 8",
        "take 2",
        "look cellar as x",
    ),
    "bob": steps(
        "give look on den to cid since 2 until 7 passes 1 as n",
        "give look on den to dan since 0 until 12 passes 0 as m",
        "look den as x",
        "give look on den to dan since 0 until 9 passes 0 as m",
        "take 1",
        "take 1",
    ),
    "cid": steps("look den as x", "set den to 1", "look den as x"),
}
WAY = ("ann", "bob", "cid", "bob", "cid", "bob", "bob", "ann", "ann", "ann", "bob", "cid", "ann",
       "bob", None, None)
LOG = gone(ROOMS, PROGRAMS, WAY).log()
MOMENT = len(WAY)
LEAVE = (0, "den", BOTH, "ann", "bob", 0, 9, 2, None)


class Text(str):
    pass


class LogsTest(unittest.TestCase):
    def assert_refused(self, row, bare_log, moment=50):
        with self.assertRaises(HallError) as caught:
            told_log(ROOMS, bare_log, moment)
        self.assertIs(type(caught.exception), NoLog)
        self.assertEqual(caught.exception.row, row)

    def assert_told(self, bare_log, moment=50):
        log = told_log(ROOMS, bare_log, moment)
        self.assertEqual(bare(log), bare_log)
        self.assertIs(log_holds(ROOMS, log, moment), True)
        return log


class BareTest(LogsTest):
    def test_rows_are_without_their_last_part_and_over_rows_out(self):
        self.assertEqual(bare(LOG), [
            ("gave", 0, "ann", LEAVE),
            ("gave", 1, "bob", (1, "den", LOOK, "bob", "cid", 2, 7, 1, 0)),
            ("look", 2, "cid", "den", 5),
            ("miss", 3, "bob", ("give", LOOK, "den", "dan", 0, 12, 0)),
            ("miss", 4, "cid", ("set", "den")),
            ("look", 5, "bob", "den", 5),
            ("gave", 6, "bob", (2, "den", LOOK, "bob", "dan", 0, 9, 0, 0)),
            ("look", 7, "ann", "den", 5),
            ("set", 8, "ann", "den", 8),
            ("miss", 9, "ann", ("take", 2)),
            ("miss", 10, "bob", ("take", 1)),
            ("miss", 11, "cid", ("look", "den")),
            ("miss", 12, "ann", ("look", "cellar")),
            ("miss", 13, "bob", ("take", 1)),
        ])

    def test_of_nothing(self):
        self.assertEqual(bare([]), [])
        self.assertEqual(bare([("over", 3, 0), ("over", 4, 1)]), [])

    def test_the_log_stays(self):
        log = list(LOG)
        told = bare(log=log)
        told.clear()
        self.assertEqual(log, LOG)
        empty = []
        self.assertIsNot(bare(empty), empty)


class ToldTest(LogsTest):
    def test_as_it_was(self):
        told = told_log(ROOMS, bare(LOG), MOMENT)
        self.assertEqual(told, LOG)
        self.assertEqual(repr(told), repr(LOG))

    def test_arguments_by_name(self):
        self.assertEqual(told_log(rooms=ROOMS, bare_log=bare(LOG), moment=MOMENT), LOG)

    def test_at_each_moment_of_a_hall(self):
        hall = gone(ROOMS, PROGRAMS, ())
        for actor in WAY:
            if actor is None:
                hall.wait()
            else:
                hall.go(actor)
            told = told_log(ROOMS, bare(hall.log()), hall.moment())
            self.assertEqual(told, hall.log())
            self.assertIs(log_holds(ROOMS, told, hall.moment()), True)

    def test_of_no_rows(self):
        for moment in (0, 1, 1000000):
            self.assertEqual(told_log(ROOMS, [], moment), [])

    def test_over_rows_up_to_the_moment_and_with_it(self):
        rows = [("gave", 3, "ann", (0, "den", LOOK, "ann", "bob", 0, 9, 2, None)),
                ("gave", 4, "bob", (1, "den", LOOK, "bob", "cid", 5, 7, 1, 0))]
        told = [rows[0] + ((),), rows[1] + ((0,),)]
        self.assertEqual(told_log(ROOMS, rows, 5), told)
        self.assertEqual(told_log(ROOMS, rows, 6), told)
        self.assertEqual(told_log(ROOMS, rows, 7), told + [("over", 7, 1)])
        self.assertEqual(told_log(ROOMS, rows, 8), told + [("over", 7, 1)])
        self.assertEqual(told_log(ROOMS, rows, 9), told + [("over", 7, 1), ("over", 9, 0)])
        self.assertEqual(told_log(ROOMS, rows, 1000000), told + [("over", 7, 1), ("over", 9, 0)])

    def test_over_rows_stand_ahead_of_the_row_of_their_moment(self):
        rows = [("gave", 0, "ann", (0, "den", LOOK, "ann", "bob", 0, 4, 2, None)),
                ("miss", 4, "bob", ("look", "den"))]
        self.assertEqual(self.assert_told(rows)[1:], [
            ("over", 4, 0), ("miss", 4, "bob", ("look", "den"), ((0, 0, "over"),)),
        ])

    def test_moments_may_lie_between(self):
        rows = [("look", 7, "ann", "den", 5), ("set", 999, "zoe", "attic", 3),
                ("look", 999999, "zoe", "attic", 3)]
        self.assertEqual(self.assert_told(rows, 1000000), [row + ((),) for row in rows])

    def test_names_in_rows_are_any_names(self):
        self.assertEqual(self.assert_told([
            ("miss", 0, "nobody", ("look", "nowhere")),
            ("miss", 1, "set", ("set", "to")),
            ("gave", 2, "ann", (0, "den", SET, "ann", "let", 0, 9, 0, None)),
            ("set", 3, "let", "den", 1),
            ("miss", 4, "missed", ("give", SET, "now", "now", 0, 0, 0)),
        ])[-1], ("over", 9, 0))

    def test_all_four_rooms(self):
        rooms = {name: ("ann", at) for at, name in enumerate("abcd")}
        rows = [("look", at, "ann", name, at) for at, name in enumerate("abcd")]
        self.assertEqual(told_log(rooms, rows, 4), [row + ((),) for row in rows])

    def test_what_is_told_is_new_and_what_is_handed_in_stays(self):
        rooms, rows = dict(ROOMS), bare(LOG)
        before = copy.deepcopy((rooms, rows))
        told = told_log(rooms, rows, MOMENT)
        told.clear()
        self.assertEqual((rooms, rows), before)
        self.assertEqual(told_log(rooms, rows, MOMENT), LOG)
        empty = []
        self.assertIsNot(told_log(rooms, empty, 0), empty)


class FormTest(LogsTest):
    """Bare rows that are none by their forms."""

    def test_no_rows_at_all(self):
        for row in (None, 0, "look", (), [], {}, ("look",), ("look", 0), ("look", 0, "ann"),
                    ((),), (None,) * 4, ("rest", 0, "ann"), ("rest", 0, "ann", 3),
                    ("over", 0, 0), ("over", 3, 0), ("over", 0, "ann", 0), ("Look", 0, "ann", "den", 5),
                    (("look",), 0, "ann", "den", 5), (["look"], 0, "ann", "den", 5)):
            with self.subTest(row=row):
                self.assert_refused(0, [row])

    def test_right_ones_to_begin_with(self):
        for row in self.right_rows():
            self.assert_told([row])

    def right_rows(self):
        return [
            ("look", 0, "ann", "den", 5),
            ("set", 0, "ann", "den", 6),
            ("gave", 0, "ann", LEAVE),
            ("miss", 0, "bob", ("look", "den")),
            ("miss", 0, "bob", ("set", "den")),
            ("miss", 0, "bob", ("give", LOOK, "den", "cid", 0, 9, 0)),
            ("miss", 0, "bob", ("take", 0)),
        ]

    def test_parts_more_or_fewer(self):
        for row in self.right_rows():
            with self.subTest(row=row):
                self.assert_refused(0, [row[:-1]])
                self.assert_refused(0, [row + (None,)])
                self.assert_refused(0, [row + ((),)])
                self.assert_refused(0, [row[:1] + row[2:]])

    def test_lists_for_tuples(self):
        for row in self.right_rows():
            with self.subTest(row=row):
                self.assert_refused(0, [list(row)])
                if isinstance(row[3], tuple):
                    self.assert_refused(0, [row[:3] + (list(row[3]),)])

    def test_moments_that_are_none(self):
        for moment in (-1, None, "0", False, True, 0.0, 1.0, (0,), decimal.Decimal(3), 1000001):
            for row in self.right_rows():
                with self.subTest(row=row, moment=moment):
                    self.assert_refused(0, [row[:1] + (moment,) + row[2:]], 1000000)

    def test_actors_that_are_none(self):
        for actor in (None, "", "Ann", "ann ", 1, ("ann",), ["ann"], "abcdefghi", b"ann"):
            for row in self.right_rows():
                with self.subTest(row=row, actor=actor):
                    self.assert_refused(0, [row[:2] + (actor,) + row[3:]])

    def test_rooms_and_worths_that_are_none(self):
        for room in (None, "", "Den", 1, ("den",), ["den"], "abcdefghi"):
            for word in ("look", "set"):
                self.assert_refused(0, [(word, 0, "ann", room, 5)])
                self.assert_refused(0, [("miss", 0, "ann", (word, room))])
        for worth in (None, "5", 5.0, (5,), [5], 10 ** 9, -10 ** 9, fractions.Fraction(5)):
            for word in ("look", "set"):
                self.assert_refused(0, [(word, 0, "ann", "den", worth)])

    def test_truths_are_no_numbers(self):
        rooms = {"den": ("ann", 1)}
        leave = (0, "den", LOOK, "ann", "bob", 0, 9, 1, None)
        self.assertEqual(told_log(rooms, [("look", 0, "ann", "den", 1)], 5),
                         [("look", 0, "ann", "den", 1, ())])
        for row in (
            ("look", 0, "ann", "den", True), ("set", 0, "ann", "den", True),
            ("look", False, "ann", "den", 1), ("look", True, "ann", "den", 1),
            ("miss", 0, "ann", ("take", True)), ("miss", 0, "ann", ("take", False)),
            ("miss", 0, "bob", ("give", LOOK, "den", "cid", 0, True, 0)),
            ("gave", 0, "ann", (False, *leave[1:])),
            ("gave", 0, "ann", (*leave[:5], False, 9, 1, None)),
            ("gave", 0, "ann", (*leave[:6], True, 1, None)),
            ("gave", 0, "ann", (*leave[:7], True, None)),
            ("gave", 0, "ann", (*leave[:8], False)),
        ):
            with self.subTest(row=row), self.assertRaises(NoLog) as caught:
                told_log(rooms, [row], 50)
            self.assertEqual(caught.exception.row, 0)
        rows = [("gave", 0, "ann", leave), ("took", 1, "ann", False)]
        with self.assertRaises(NoLog) as caught:
            told_log(rooms, rows, 50)
        self.assertEqual(caught.exception.row, 1)

    def test_leaves_that_are_none(self):
        for leave in (
            None, (), 0, LEAVE[:-1], LEAVE + (None,), list(LEAVE), "leave",
            (0, "den", list(BOTH), "ann", "bob", 0, 9, 2, None),
            (0, "den", ("set", "look"), "ann", "bob", 0, 9, 2, None),
            (0, "den", BOTH, "ann", "ann", 0, 9, 2, None),
            (0, "den", BOTH, "ann", "bob", 9, 9, 2, None),
            (0, "den", BOTH, "ann", "bob", 0, 9, 7, None),
            (0, "den", BOTH, "ann", "bob", 0, 9, -1, None),
            (0, "den", BOTH, "ann", "bob", 0, 1000001, 2, None),
            (0, "den", BOTH, "ann", "bob", 0, 9, 2, 0),
            (-1, "den", BOTH, "ann", "bob", 0, 9, 2, None),
        ):
            with self.subTest(leave=leave):
                self.assert_refused(0, [("gave", 0, "ann", leave)])

    def test_numbers_taken_that_are_none(self):
        for number in (None, "0", 0.0, (0,), [0], -1):
            rows = [("gave", 0, "ann", LEAVE), ("took", 1, "ann", number)]
            self.assert_refused(1, rows)

    def test_misses_that_are_none(self):
        for what in (
            None, (), "look", 0, ("look",), ("look", "den", 5), ("look", 5), ("rest",),
            ("gave", LEAVE), ("took", 0), ("miss", "den"), ("over", 0), (["look"], "den"),
            ("take",), ("take", None), ("take", "0"), ("take", 0, 0), ("take", 10 ** 9), ("take", 0.0),
            ("give", LOOK, "den", "cid", 0, 9), ("give", LOOK, "den", "cid", 0, 9, 0, 0),
            ("give", "look", "den", "cid", 0, 9, 0), ("give", ["look"], "den", "cid", 0, 9, 0),
            ("give", (), "den", "cid", 0, 9, 0), ("give", ("set", "look"), "den", "cid", 0, 9, 0),
            ("give", LOOK, "Den", "cid", 0, 9, 0), ("give", LOOK, "den", "Cid", 0, 9, 0),
            ("give", LOOK, "den", "cid", None, 9, 0), ("give", LOOK, "den", "cid", 0, "9", 0),
            ("give", LOOK, "den", "cid", 0, 9, None), ("give", LOOK, "den", "cid", 10 ** 9, 9, 0),
            ("give", "den", LOOK, "cid", 0, 9, 0), ("let", "x", 5), ("when", 0),
        ):
            with self.subTest(what=what):
                self.assert_refused(0, [("miss", 0, "bob", what)])

    def test_numbers_that_are_missed_may_be_any_of_nine_figures(self):
        self.assert_told([
            ("miss", 0, "ann", ("take", -999999999)),
            ("miss", 1, "ann", ("take", 999999999)),
            ("miss", 2, "ann", ("give", LOOK, "den", "bob", -999999999, 999999999, -1)),
            ("miss", 3, "ann", ("give", LOOK, "den", "ann", 0, 9, 0)),
        ])


class RefusedTest(LogsTest):
    """Bare rows that are right by their forms, but can not be where they stand."""

    def test_a_moment_no_later_than_that_of_the_row_ahead(self):
        look = ("look", 4, "ann", "den", 5)
        self.assert_refused(1, [look, look])
        self.assert_refused(1, [look, ("look", 3, "ann", "den", 5)])
        self.assert_refused(2, [("set", 3, "ann", "den", 5), look, ("look", 3, "ann", "den", 5)])
        self.assert_told([look, ("look", 5, "ann", "den", 5)])

    def test_a_moment_not_below_the_told_one(self):
        rows = [("look", 4, "ann", "den", 5), ("look", 6, "ann", "den", 5)]
        self.assert_told(rows, 7)
        self.assert_refused(1, rows, 6)
        self.assert_refused(1, rows, 5)
        self.assert_refused(0, rows, 4)
        self.assert_refused(0, rows, 0)
        self.assert_refused(0, [("look", 0, "ann", "den", 5)], 0)

    def test_looks_and_sets_that_are_not_let(self):
        for word in ("look", "set"):
            for actor, room in (("bob", "den"), ("zoe", "den"), ("ann", "attic"), ("ann", "cellar")):
                with self.subTest(word=word, actor=actor, room=room):
                    worth = {"den": 5, "attic": -7}.get(room, 0)
                    self.assert_refused(0, [(word, 0, actor, room, worth)])

    def test_a_look_under_a_leave_that_does_not_stand(self):
        leave = (0, "den", LOOK, "ann", "bob", 3, 6, 0, None)
        gave = ("gave", 0, "ann", leave)
        for moment in range(1, 9):
            rows = [gave, ("look", moment, "bob", "den", 5)]
            missed = [gave, ("miss", moment, "bob", ("look", "den"))]
            with self.subTest(moment=moment):
                if 3 <= moment < 6:
                    self.assert_told(rows)
                    self.assert_refused(1, missed)
                else:
                    self.assert_refused(1, rows)
                    self.assert_told(missed)
        self.assert_refused(2, [gave, ("took", 3, "ann", 0), ("look", 4, "bob", "den", 5)])
        self.assert_refused(1, [gave, ("set", 4, "bob", "den", 5)])

    def test_another_worth_than_the_rooms(self):
        self.assert_refused(0, [("look", 0, "ann", "den", 6)])
        self.assert_refused(0, [("look", 0, "ann", "den", -7)])
        rows = [("set", 0, "ann", "den", 6), ("look", 1, "ann", "den", 6)]
        self.assert_told(rows)
        self.assert_refused(1, [rows[0], ("look", 1, "ann", "den", 5)])

    def test_givings_that_are_not_let(self):
        for leave in (
            (0, "attic", LOOK, "ann", "bob", 0, 9, 0, None),
            (0, "cellar", LOOK, "ann", "bob", 0, 9, 0, None),
            (0, "den", LOOK, "ann", "bob", 0, 4, 0, None),
        ):
            self.assert_refused(0, [("gave", 4, "ann", leave)])
        self.assert_told([("gave", 4, "ann", (0, "den", LOOK, "ann", "bob", 0, 5, 0, None))])

    def test_a_giving_under_a_lost_leave(self):
        gave = ("gave", 0, "ann", LEAVE)
        passed = (1, "den", LOOK, "bob", "cid", 0, 9, 1, 0)
        self.assert_told([gave, ("gave", 8, "bob", passed)])
        self.assert_refused(1, [gave, ("gave", 9, "bob", passed)])
        self.assert_refused(2, [gave, ("took", 1, "ann", 0), ("gave", 2, "bob", passed)])

    def test_a_leave_of_another_number_or_under(self):
        gave = ("gave", 0, "ann", LEAVE)
        self.assert_refused(0, [("gave", 0, "ann", (1, *LEAVE[1:]))])
        self.assert_refused(0, [("gave", 0, "ann", (1, *LEAVE[1:8], 0))])
        wide = ("gave", 1, "ann", (1, "den", BOTH, "ann", "bob", 0, 20, 6, None))
        self.assert_told([gave, wide])
        self.assert_refused(1, [gave, ("gave", 1, "ann", (0, *wide[3][1:]))])
        self.assert_refused(1, [gave, ("gave", 1, "ann", (2, *wide[3][1:]))])
        self.assert_refused(1, [gave, ("gave", 1, "ann", (*wide[3][:8], 0))])
        passed = (2, "den", LOOK, "bob", "cid", 0, 9, 1, 0)
        self.assert_told([gave, wide, ("gave", 2, "bob", passed)])
        self.assert_refused(2, [gave, wide, ("gave", 2, "bob", (*passed[:8], 1))])
        self.assert_refused(2, [gave, wide, ("gave", 2, "bob", (*passed[:8], None))])

    def test_a_leave_of_another_giver(self):
        gave = ("gave", 0, "ann", LEAVE)
        self.assert_refused(0, [("gave", 0, "bob", (*LEAVE[:3], "ann", "cid", 0, 9, 2, None))])
        self.assert_refused(0, [("gave", 0, "ann", (*LEAVE[:3], "zoe", "bob", 0, 9, 2, None))])
        self.assert_refused(1, [gave, ("gave", 1, "ann", (1, "den", LOOK, "bob", "cid", 0, 9, 1, 0))])

    def test_takings_that_are_not_let(self):
        gave = ("gave", 0, "ann", LEAVE)
        took = ("took", 1, "ann", 0)
        self.assert_told([gave, took])
        self.assert_refused(0, [took])
        self.assert_refused(1, [gave, ("took", 1, "bob", 0)])
        self.assert_refused(1, [gave, ("took", 1, "ann", 1)])
        self.assert_refused(2, [gave, took, ("took", 2, "ann", 0)])
        self.assert_refused(1, [gave, ("took", 9, "ann", 0)])
        self.assert_told([gave, ("took", 8, "ann", 0)])

    def test_misses_of_what_is_let(self):
        gave = ("gave", 0, "ann", LEAVE)
        for at, rows in (
            (0, [("miss", 1, "ann", ("look", "den"))]),
            (0, [("miss", 1, "ann", ("set", "den"))]),
            (1, [gave, ("miss", 1, "bob", ("look", "den"))]),
            (1, [gave, ("miss", 1, "bob", ("set", "den"))]),
            (0, [("miss", 1, "ann", ("give", LOOK, "den", "bob", 0, 9, 0))]),
            (1, [gave, ("miss", 1, "bob", ("give", LOOK, "den", "cid", 0, 9, 1))]),
            (1, [gave, ("miss", 1, "ann", ("take", 0))]),
        ):
            with self.subTest(rows=rows):
                self.assert_refused(at, rows)

    def test_the_first_of_several(self):
        good = ("look", 1, "ann", "den", 5)
        bad = [None, ("look", 9, "bob", "den", 5), ("look", 0, "ann", "den", 5)]
        for first in bad:
            for second in bad:
                self.assert_refused(1, [good, first, second])
                self.assert_refused(0, [first if first != bad[2] else None, second, good])

    def test_the_row_of_several_faults_that_stands_ahead(self):
        rows = [("look", 60, "ann", "den", 5), ("look", 2, "ann", "den", 5), None]
        self.assert_refused(0, rows, 50)
        self.assert_refused(1, rows, 70)
        self.assert_refused(2, [rows[1], rows[0], None], 70)


class HoldsTest(LogsTest):
    def test_whole_logs(self):
        self.assertIs(log_holds(ROOMS, LOG, MOMENT), True)
        self.assertIs(log_holds(rooms=ROOMS, log=list(LOG), moment=MOMENT), True)
        self.assertIs(log_holds(ROOMS, [], 0), True)
        self.assertIs(log_holds(ROOMS, [], 1000000), True)

    def test_of_anything(self):
        for thing in (None, (), {}, 0, "", "log", tuple(LOG), [None], [()], [[]], [0], ["look"],
                      [("over",)], [("over", 0, 0)], [("look",)], [(None, None)], [((), ())],
                      [list(row) for row in LOG], {"log": LOG}, [LOG], LOG + [None], [None] + LOG,
                      [unittest.mock.ANY], unittest.mock.ANY):
            with self.subTest(thing=thing):
                self.assertIs(log_holds(ROOMS, thing, MOMENT), False)

    def test_at_another_moment(self):
        last = LOG[-1][1]
        for moment in range(MOMENT + 5):
            self.assertIs(log_holds(ROOMS, LOG, moment), moment > last)
        rows = told_log(ROOMS, [("gave", 0, "ann", LEAVE)], 9)
        self.assertEqual(rows[-1], ("over", 9, 0))
        for moment in range(20):
            self.assertIs(log_holds(ROOMS, rows, moment), moment >= 9)
            self.assertIs(log_holds(ROOMS, rows[:1], moment), 0 < moment < 9)

    def test_of_other_rooms(self):
        self.assertFalse(log_holds({"den": ("ann", 6)}, LOG, MOMENT))
        self.assertFalse(log_holds({"den": ("zoe", 5)}, LOG, MOMENT))
        self.assertFalse(log_holds({"attic": ("ann", 5)}, LOG, MOMENT))
        self.assertTrue(log_holds({"den": ("ann", 5)}, LOG, MOMENT))

    def test_rows_left_out_twice_or_out_of_order(self):
        for at in range(len(LOG)):
            with self.subTest(at=at):
                self.assertFalse(log_holds(ROOMS, LOG[:at] + LOG[at:at + 1] + LOG[at:], MOMENT))
                swapped = LOG[:at] + LOG[at + 1:at + 2] + LOG[at:at + 1] + LOG[at + 2:]
                self.assertIs(log_holds(ROOMS, swapped, MOMENT), swapped == LOG)
        overs = [row for row in LOG if row[0] == "over"]
        self.assertEqual(len(overs), 3)
        for row in overs:
            self.assertFalse(log_holds(ROOMS, [kept for kept in LOG if kept != row], MOMENT))

    def of_other_kinds(self, thing):
        """Things that stand where this one or a part of it stood, of another kind there."""
        yield from ([thing], (thing,), unittest.mock.ANY, 5.5, {}, {"look": thing}, b"odd")
        if isinstance(thing, tuple):
            yield list(thing)
            yield from self.with_a_part(thing, self.of_other_kinds)
        elif isinstance(thing, int):
            yield from (str(thing), float(thing), complex(thing), decimal.Decimal(thing),
                        fractions.Fraction(thing))
            if thing in (0, 1):
                yield bool(thing)

    def of_other_worths(self, thing):
        """Things of the kind of this one, but others."""
        if isinstance(thing, tuple):
            yield from (thing + (0,), thing + thing + (0,), (0,) + thing)
            for at in range(len(thing)):
                yield thing[:at] + thing[at + 1:]
            yield from self.with_a_part(thing, self.of_other_worths)
        elif isinstance(thing, int):
            yield from (thing + 1, thing - 1, thing + 10 ** 9, -thing - 1, None)
        elif isinstance(thing, str):
            yield from (thing + "x", thing[:-1], thing.upper(), " " + thing, None)

    def with_a_part(self, thing, others):
        """A tuple with each one of its parts otherwise."""
        for at, part in enumerate(thing):
            for other in others(part):
                yield thing[:at] + (other,) + thing[at + 1:]

    def assert_none_holds(self, at, others):
        for other in others:
            log = LOG[:at] + [other] + LOG[at + 1:]
            self.assertIs(log_holds(ROOMS, log, MOMENT), False, (at, other))

    def test_with_one_part_of_another_kind(self):
        for at, row in enumerate(LOG):
            self.assert_none_holds(at, self.of_other_kinds(row))

    def test_with_one_why_otherwise(self):
        for at, row in enumerate(LOG):
            if row[0] == "over":
                self.assert_none_holds(at, self.of_other_worths(row))
            else:
                whys = (*self.of_other_worths(row[-1]), None, "giver", "owner", 0, (0,), ((),))
                others = [row[:-1] + (why,) for why in whys if why != row[-1]]
                self.assert_none_holds(at, others)

    def test_takings_with_another_by(self):
        rows = [("gave", 0, "ann", LEAVE), ("gave", 1, "bob", (1, "den", SET, "bob", "cid", 0, 9, 1, 0)),
                ("gave", 2, "cid", (2, "den", SET, "cid", "dan", 0, 9, 0, 1))]
        for actor, right in (("ann", "owner"), ("bob", 0), ("cid", "giver")):
            log = told_log(ROOMS, rows + [("took", 3, actor, 2)], 5)
            self.assertEqual(log[3], ("took", 3, actor, 2, right))
            for by in ("giver", "owner", 0, 1, 2, None, False, 0.0, (), (0,), "Owner", unittest.mock.ANY):
                changed = log[:3] + [log[3][:-1] + (by,)]
                self.assertIs(log_holds(ROOMS, changed, 5), repr(by) == repr(right))

    def test_with_one_deed_otherwise(self):
        for at, row in enumerate(LOG):
            # The row ahead of it may stand at the moment ahead, or an over row at this one.
            others = [
                row[:1] + (row[1] - 2,) + row[2:], row[:1] + (MOMENT,) + row[2:], row[:1],
                ("rest",) + row[1:], row + ((),), row[:2],
            ]
            if row[0] in ("look", "set"):
                others += [row[:3] + ("attic",) + row[4:], row[:2] + ("zoe",) + row[3:]]
            if row[0] == "look":
                others += [row[:4] + (row[4] + 1, row[5]), ("set",) + row[1:4] + (6, (7,))]
            if row[0] == "gave":
                others += [row[:3] + ((*row[3][:8], 7),) + row[4:], row[:2] + ("zoe",) + row[3:]]
            if row[0] == "miss":
                others += [row[:2] + ("ann", ("look", "den"), row[4])]
            self.assert_none_holds(at, others)

    def test_classes_derived_from_those_told_are_as_good(self):
        row = LOG[2]
        self.assertEqual(row[0], "look")
        log = LOG[:2] + [(Text("look"), *row[1:])] + LOG[3:]
        self.assertIs(log_holds(ROOMS, log, MOMENT), True)

    def test_what_is_handed_in_stays(self):
        rooms, log = dict(ROOMS), list(LOG)
        log_holds(rooms, log, MOMENT)
        log_holds(rooms, log[1:], MOMENT)
        self.assertEqual((rooms, log), (ROOMS, LOG))


if __name__ == "__main__":
    unittest.main()
