"""Points [13] and [14]: the hall."""

import copy
import unittest

from leavechain.errors import Done, HallError, NoActor, NoHall
from leavechain.hall import Hall
from leavechain.programs import read_program

ROOMS = {"den": ("ann", 5), "attic": ("zoe", -7)}
REST = ((("rest",), 1),)
MOST = 999999999


def steps(*rows):
    """The steps of a program's rows."""
    return read_program("".join(row + "\n" for row in rows))


def gone(rooms, programs, way):
    """A hall that has gone by a list of actors; None is a moment without a step."""
    hall = Hall(rooms, programs)
    for actor in way:
        if actor is None:
            hall.wait()
        else:
            hall.go(actor)
    return hall


class HallTest(unittest.TestCase):
    def state(self, hall, *actors):
        told = [(hall.is_done(actor), hall.locals_of(actor)) for actor in actors]
        return (hall.moment(), hall.worths(), hall.leaves(), hall.log(), told)

    def assert_refused(self, refusal, method, *told, **named):
        with self.assertRaises(HallError) as caught:
            method(*told, **named)
        self.assertIs(type(caught.exception), refusal)

    def locals_behind(self, *rows, actor="ann", rooms=None, waits=0):
        """An actor's locals behind all steps of a program without whens, and the hall."""
        program = steps(*rows)
        hall = gone(rooms or ROOMS, {actor: program}, [None] * waits + [actor] * len(program))
        self.assertTrue(hall.is_done(actor))
        return hall.locals_of(actor), hall


class MadeTest(HallTest):
    def test_a_new_hall(self):
        hall = Hall(ROOMS, {"ann": REST, "bob": REST})
        self.assertEqual(hall.moment(), 0)
        self.assertEqual(hall.worths(), {"den": 5, "attic": -7})
        self.assertEqual(hall.leaves(), [])
        self.assertEqual(hall.log(), [])
        for actor in ("ann", "bob"):
            self.assertIs(hall.is_done(actor), False)
            self.assertEqual(hall.locals_of(actor), {"missed": 0})

    def test_of_no_rooms(self):
        for thing in (None, {}, [], "den", 1, {"den": 5}, {"den": ["ann", 5]}, {"Den": ("ann", 5)},
                      {"den": ("ann", True)}, {"den": ("ann", 10 ** 9)}, {1: ("ann", 5)},
                      {name: ("ann", 1) for name in "abcde"}, [("den", ("ann", 5))]):
            with self.subTest(thing=thing):
                self.assert_refused(NoHall, Hall, thing, {"ann": REST})

    def test_of_no_programs(self):
        for thing in (None, {}, [], (), "ann", 7, ["ann"], [("ann", REST)], {"ann"}):
            with self.subTest(thing=thing):
                self.assert_refused(NoHall, Hall, ROOMS, thing)

    def test_of_one_to_five_actors(self):
        for names in ("a", "abcde"):
            hall = Hall(ROOMS, {name: REST for name in names})
            for name in names:
                self.assertIs(hall.is_done(name), False)
        self.assert_refused(NoHall, Hall, ROOMS, {name: REST for name in "abcdef"})

    def test_of_names_that_are_none(self):
        for name in ("", "Ann", "ann1", "an n", "abcdefghi", 1, None, ("ann",), b"ann", True):
            with self.subTest(name=name):
                self.assert_refused(NoHall, Hall, ROOMS, {name: REST})
                self.assert_refused(NoHall, Hall, ROOMS, {"ann": REST, name: REST})

    def test_row_words_may_be_actors_and_rooms(self):
        hall = gone({"set": ("look", 1)}, {"look": steps("set set to 2")}, ["look"])
        self.assertEqual(hall.worths(), {"set": 2})

    def test_of_steps_that_are_none(self):
        for thing in (None, (), [], "rest\n", [(("rest",), 1)], ((("rest",), 0),),
                      ((("rest",), 2),), ((["rest"], 1),), ((("rest",), True),),
                      ((("look", "den"), 1),), ((("when", ("now",)), 1),),
                      ((("let", "missed", ("now",)), 1),), REST + REST,
                      tuple((("rest",), at + 1) for at in range(41))):
            with self.subTest(thing=thing):
                self.assert_refused(NoHall, Hall, ROOMS, {"ann": thing})
                self.assert_refused(NoHall, Hall, ROOMS, {"bob": REST, "ann": thing})

    def test_of_forty_steps(self):
        program = tuple((("rest",), at + 1) for at in range(40))
        hall = gone(ROOMS, {"ann": program}, ["ann"] * 40)
        self.assertIs(hall.is_done("ann"), True)
        self.assertEqual(hall.moment(), 40)

    def test_arguments_by_name(self):
        hall = Hall(rooms=ROOMS, programs={"ann": steps("look den as x", "rest")})
        self.assertIsNone(hall.go(actor="ann"))
        self.assertIsNone(hall.wait(moments=2))
        self.assertIsNone(hall.wait())
        self.assertIs(hall.is_done(actor="ann"), False)
        self.assertEqual(hall.locals_of(actor="ann"), {"x": 5, "missed": 0})
        self.assertRaises(TypeError, hall.wait, 1)
        self.assertEqual(hall.moment(), 4)


class RefusedTest(HallTest):
    def test_no_actor(self):
        hall = gone(ROOMS, {"ann": steps("look den as x", "rest")}, ["ann"])
        before = self.state(hall, "ann")
        for actor in ("bob", "den", "zoe", ""):
            for method in (hall.go, hall.is_done, hall.locals_of):
                with self.subTest(actor=actor, method=method.__name__):
                    self.assert_refused(NoActor, method, actor)
                    self.assertEqual(self.state(hall, "ann"), before)

    def test_done(self):
        hall = gone(ROOMS, {"ann": REST, "bob": REST}, ["ann"])
        before = self.state(hall, "ann", "bob")
        self.assert_refused(Done, hall.go, "ann")
        self.assertEqual(self.state(hall, "ann", "bob"), before)
        hall.go("bob")
        self.assert_refused(Done, hall.go, "bob")

    def test_no_actor_goes_ahead_of_done(self):
        hall = gone(ROOMS, {"ann": REST}, ["ann"])
        self.assert_refused(NoActor, hall.go, "bob")
        self.assert_refused(Done, hall.go, "ann")


class MomentTest(HallTest):
    def test_each_step_takes_a_moment(self):
        program = steps("rest", "let x be now", "when x", "take 3", "end", "look den as y",
                        "set den to now", "give look on den to bob since 0 until 9 passes 0 as z")
        hall = Hall(ROOMS, {"ann": program})
        for moment in range(7):
            self.assertEqual(hall.moment(), moment)
            hall.go("ann")
        self.assertEqual(hall.moment(), 7)
        self.assertEqual(hall.locals_of("ann")["x"], 1)
        self.assertEqual(hall.worths()["den"], 5)

    def test_moments_pass_without_a_step(self):
        hall = Hall(ROOMS, {"ann": steps("let x be now", "let y be now", "let z be now")})
        hall.wait()
        self.assertEqual(hall.moment(), 1)
        hall.go("ann")
        hall.wait(moments=1)
        hall.go("ann")
        hall.wait(moments=5)
        hall.go("ann")
        self.assertEqual(hall.moment(), 10)
        self.assertEqual(hall.locals_of("ann"), {"x": 1, "y": 3, "z": 9, "missed": 0})
        self.assertEqual(hall.log(), [])

    def test_moments_pass_when_all_are_done(self):
        hall = gone(ROOMS, {"ann": REST}, ["ann"])
        hall.wait(moments=9)
        self.assertEqual(hall.moment(), 10)

    def test_very_many_moments(self):
        hall = gone(ROOMS, {"ann": steps(
            "give look on den to bob since 0 until 1000000 passes 0 as x", "let y be now",
        )}, ["ann"])
        hall.wait(moments=999998)
        self.assertEqual(len(hall.log()), 1)
        hall.go("ann")
        self.assertEqual(hall.moment(), 1000000)
        self.assertEqual(hall.log()[1:], [("over", 1000000, 0)])
        self.assertEqual(hall.locals_of("ann")["y"], 999999)

    def test_leaves_end_while_moments_pass(self):
        program = steps("give look on den to bob since 0 until 4 passes 0 as x",
                        "give look on den to cid since 0 until 3 passes 0 as y",
                        "give look on den to dan since 0 until 9 passes 0 as z")
        hall = gone(ROOMS, {"ann": program, "bob": steps("look den as x", "look den as x")},
                    ["ann"] * 3)
        self.assertEqual(hall.log()[3:], [("over", 3, 1)])
        hall.wait(moments=2)
        self.assertEqual(hall.log()[3:], [("over", 3, 1), ("over", 4, 0)])
        hall.go("bob")
        self.assertEqual(hall.locals_of("bob"), {"x": 0, "missed": 1})
        hall.wait(moments=2)
        self.assertEqual([row for row in hall.log() if row[0] == "over"],
                         [("over", 3, 1), ("over", 4, 0)])
        hall.wait(moments=90)
        self.assertEqual(hall.log()[-1], ("over", 9, 2))


class LookTest(HallTest):
    def test_of_the_owner(self):
        told, _ = self.locals_behind("look den as x")
        self.assertEqual(told, {"x": 5, "missed": 0})
        told, _ = self.locals_behind("look attic as x", actor="zoe")
        self.assertEqual(told, {"x": -7, "missed": 0})

    def test_that_is_not_let(self):
        told, hall = self.locals_behind("let x be 3", "look attic as x")
        self.assertEqual(told, {"x": 0, "missed": 1})
        self.assertEqual(hall.log(), [("miss", 1, "ann", ("look", "attic"), ())])

    def test_of_no_room(self):
        told, hall = self.locals_behind("let x be 3", "look cellar as x")
        self.assertEqual(told, {"x": 0, "missed": 1})
        self.assertEqual(hall.log(), [("miss", 1, "ann", ("look", "cellar"), ())])

    def test_under_a_leave_while_it_stands(self):
        programs = {
            "ann": steps("give look on den to bob since 2 until 4 passes 0 as n"),
            "bob": steps(*["look den as x"] * 4),
        }
        hall = Hall(ROOMS, programs)
        hall.go("ann")
        found = []
        for _ in range(4):
            hall.go("bob")
            found.append(hall.locals_of("bob"))
        yes, no = {"x": 5, "missed": 0}, {"x": 0, "missed": 1}
        self.assertEqual(found, [no, yes, yes, no])

    def test_under_a_leave_with_the_other_deed_alone(self):
        programs = {
            "ann": steps("give set on den to bob since 0 until 9 passes 0 as n"),
            "bob": steps("look den as x", "set den to 8"),
        }
        hall = gone(ROOMS, programs, ["ann", "bob"])
        self.assertEqual(hall.locals_of("bob"), {"x": 0, "missed": 1})
        hall.go("bob")
        self.assertEqual(hall.locals_of("bob"), {"x": 0, "missed": 0})
        self.assertEqual(hall.worths()["den"], 8)

    def test_sees_what_was_set(self):
        told, _ = self.locals_behind("set den to 0 - 12", "look den as x")
        self.assertEqual(told, {"x": -12, "missed": 0})


class SetTest(HallTest):
    def test_of_the_owner(self):
        told, hall = self.locals_behind("set den to 3 * 4")
        self.assertEqual(told, {"missed": 0})
        self.assertEqual(hall.worths(), {"den": 12, "attic": -7})

    def test_that_is_not_let(self):
        told, hall = self.locals_behind("set attic to 3")
        self.assertEqual(told, {"missed": 1})
        self.assertEqual(hall.worths(), {"den": 5, "attic": -7})

    def test_of_no_room(self):
        told, hall = self.locals_behind("set cellar to 3")
        self.assertEqual(told, {"missed": 1})
        self.assertEqual(hall.worths(), {"den": 5, "attic": -7})

    def test_under_a_leave(self):
        programs = {
            "ann": steps("give look+set on den to bob since 0 until 3 passes 0 as n"),
            "bob": steps("set den to 6", "set den to 7", "set den to 8"),
        }
        hall = gone(ROOMS, programs, ["ann", "bob", "bob"])
        self.assertEqual(hall.worths()["den"], 7)
        hall.go("bob")
        self.assertEqual(hall.worths()["den"], 7)
        self.assertEqual(hall.locals_of("bob"), {"missed": 1})


class GiveTest(HallTest):
    def test_puts_the_number(self):
        told, hall = self.locals_behind(
            "give look on den to bob since 1 until 9 passes 2 as x",
            "give look+set on den to cid since now until now + 7 passes 0 as y",
        )
        self.assertEqual(told, {"x": 0, "y": 1, "missed": 0})
        self.assertEqual(hall.leaves(), [
            (0, "den", ("look",), "ann", "bob", 1, 9, 2, None),
            (1, "den", ("look", "set"), "ann", "cid", 1, 8, 0, None),
        ])

    def test_under_a_leave(self):
        programs = {
            "ann": steps("give look on den to bob since 0 until 9 passes 1 as n"),
            "bob": steps("give look on den to cid since 5 until 9 passes 0 as n"),
        }
        hall = gone(ROOMS, programs, ["ann", "bob"])
        self.assertEqual(hall.locals_of("bob"), {"n": 1, "missed": 0})
        self.assertEqual(hall.leaves()[1], (1, "den", ("look",), "bob", "cid", 5, 9, 0, 0))

    def test_that_is_none(self):
        for row in (
            "give look on cellar to bob since 0 until 9 passes 0 as x",   # no such room
            "give look on attic to bob since 0 until 9 passes 0 as x",    # no right to
            "give look on den to ann since 0 until 9 passes 0 as x",      # to itself
            "give look on den to bob since 4 until 4 passes 0 as x",      # no moment
            "give look on den to bob since 0 - 1 until 4 passes 0 as x",  # no since
            "give look on den to bob since 0 until 1000001 passes 0 as x",
            "give look on den to bob since 0 until 4 passes 7 as x",
            "give look on den to bob since 0 until 4 passes 0 - 1 as x",
            "give look on den to bob since 0 until now passes 0 as x",    # over already
        ):
            with self.subTest(row=row):
                told, hall = self.locals_behind("let x be 3", row)
                self.assertEqual(told, {"x": -1, "missed": 1})
                self.assertEqual(hall.leaves(), [])

    def test_until_the_next_moment(self):
        told, hall = self.locals_behind(
            "give look on den to bob since 0 until now + 1 passes 0 as x",
        )
        self.assertEqual(told, {"x": 0, "missed": 0})
        self.assertEqual(hall.log()[1:], [("over", 1, 0)])

    def test_reckons_its_numbers_with_its_own_locals(self):
        told, hall = self.locals_behind(
            "let x be 4", "let y be 20",
            "give set on den to bob since x until x * y passes x - 1 as x",
        )
        self.assertEqual(told, {"x": 0, "y": 20, "missed": 0})
        self.assertEqual(hall.leaves(), [(0, "den", ("set",), "ann", "bob", 4, 80, 3, None)])


class TakeTest(HallTest):
    def setUp(self):
        self.programs = {
            "ann": steps("give look on den to bob since 0 until 50 passes 3 as x",
                         "take x", "take x"),
            "bob": steps("give look on den to cid since 0 until 50 passes 2 as x",
                         "take x", "take 0"),
            "cid": steps("look den as x", "take 1", "look den as x"),
        }

    def test_taken_back_it_stands_no_more(self):
        hall = gone(ROOMS, self.programs, ["ann", "bob", "cid", "ann", "cid", "cid"])
        self.assertEqual(hall.locals_of("ann"), {"x": 0, "missed": 0})
        self.assertEqual(hall.locals_of("cid"), {"x": 0, "missed": 1})
        self.assertEqual(hall.log()[-1],
                         ("miss", 5, "cid", ("look", "den"), ((1, 0, "taken"),)))

    def test_a_second_time(self):
        hall = gone(ROOMS, self.programs, ["ann", "ann", "ann"])
        self.assertEqual(hall.locals_of("ann"), {"x": 0, "missed": 1})

    def test_by_one_who_may_not(self):
        hall = gone(ROOMS, self.programs, ["ann", "bob", "cid", "cid"])
        self.assertEqual(hall.locals_of("cid"), {"x": 5, "missed": 1})
        hall.go("cid")
        self.assertEqual(hall.locals_of("cid"), {"x": 5, "missed": 0})
        hall.go("bob")
        self.assertEqual(hall.locals_of("bob"), {"x": 1, "missed": 0})
        hall.go("bob")
        self.assertEqual(hall.locals_of("bob"), {"x": 1, "missed": 1})

    def test_of_no_leave(self):
        for row in ("take 0", "take 7", "take 0 - 1", "take 999999999"):
            with self.subTest(row=row):
                told, _ = self.locals_behind(row)
                self.assertEqual(told, {"missed": 1})

    def test_of_one_that_is_over(self):
        program = steps("give look on den to bob since 0 until 2 passes 0 as x", "rest", "take x")
        hall = gone(ROOMS, {"ann": program}, ["ann"] * 3)
        self.assertEqual(hall.locals_of("ann"), {"x": 0, "missed": 1})
        self.assertEqual(hall.log()[1:], [("over", 2, 0), ("miss", 2, "ann", ("take", 0), ())])


class MissedTest(HallTest):
    LET = ("look den as y", "set den to 3", "take n",
           "give look on den to cid since 0 until 50 passes 0 as y")
    NOT_LET = ("look attic as y", "set attic to 3", "take 9", "look cellar as y",
               "set cellar to 3", "give look on attic to cid since 0 until 50 passes 0 as y")
    LEAVING = ("rest", "let y be 5", "let y be missed")

    def missed(self, *rows):
        given = "give look on den to bob since 0 until 50 passes 0 as n"
        told, _ = self.locals_behind(given, *rows)
        return told["missed"]

    def test_behind_what_is_let(self):
        for ahead in self.NOT_LET:
            for row in self.LET:
                with self.subTest(ahead=ahead, row=row):
                    self.assertEqual(self.missed(row), 0)
                    self.assertEqual(self.missed(ahead, row), 0)

    def test_behind_what_is_not_let(self):
        for ahead in self.LET:
            for row in self.NOT_LET:
                with self.subTest(ahead=ahead, row=row):
                    self.assertEqual(self.missed(row), 1)
                    self.assertEqual(self.missed(ahead, row), 1)

    def test_else_it_stays(self):
        for row in self.LEAVING:
            with self.subTest(row=row):
                self.assertEqual(self.missed("take 9", row), 1)
                self.assertEqual(self.missed("look den as y", row), 0)

    def test_behind_a_when_it_stays(self):
        for ahead, missed in (("take 9", 1), ("rest", 0)):
            program = steps(ahead, "when missed", "else", "end", "rest")
            hall = gone(ROOMS, {"ann": program}, ["ann"] * 2)
            self.assertEqual(hall.locals_of("ann"), {"missed": missed})

    def test_is_each_actors_own(self):
        hall = gone(ROOMS, {"ann": steps("take 9"), "bob": REST}, ["ann", "bob"])
        self.assertEqual(hall.locals_of("ann"), {"missed": 1})
        self.assertEqual(hall.locals_of("bob"), {"missed": 0})

    def test_is_reckoned_with(self):
        told, _ = self.locals_behind("take 9", "let x be missed + missed", "look den as y",
                                     "let z be missed")
        self.assertEqual(told, {"x": 2, "y": 5, "z": 0, "missed": 0})

    def test_is_the_one_ahead_in_the_step_itself(self):
        told, hall = self.locals_behind("take 9", "set den to missed", "set den to missed - 3")
        self.assertEqual(hall.worths()["den"], -3)
        self.assertEqual([row[4] for row in hall.log() if row[0] == "set"], [1, -3])
        self.assertEqual(told, {"missed": 0})


class LocalsTest(HallTest):
    def test_are_0_ahead_of_their_first_worth(self):
        told, _ = self.locals_behind("let x be y", "let z be x + 1")
        self.assertEqual(told, {"x": 0, "z": 1, "missed": 0})

    def test_stand_with_their_first_worth_alone(self):
        hall = Hall(ROOMS, {"ann": steps("let x be 2", "look attic as y", "rest",
                                         "give look on attic to bob since 0 until 1 passes 0 as z")})
        found = []
        for _ in range(4):
            hall.go("ann")
            found.append(sorted(hall.locals_of("ann")))
        self.assertEqual(found, [["missed", "x"], ["missed", "x", "y"], ["missed", "x", "y"],
                                 ["missed", "x", "y", "z"]])

    def test_are_each_actors_own(self):
        hall = gone(ROOMS, {"ann": steps("let x be 2"), "bob": steps("let y be x")}, ["ann", "bob"])
        self.assertEqual(hall.locals_of("ann"), {"x": 2, "missed": 0})
        self.assertEqual(hall.locals_of("bob"), {"y": 0, "missed": 0})


class WhenTest(HallTest):
    def way(self, reckoned, *ahead):
        program = steps(*ahead, f"when {reckoned}", "let y be 1", "else", "let y be 2", "end",
                        "let z be y")
        hall = gone(ROOMS, {"ann": program}, ["ann"] * (len(ahead) + 3))
        self.assertIs(hall.is_done("ann"), True)
        return hall.locals_of("ann")["z"]

    def test_for_0_and_for_what_is_unlike_0(self):
        self.assertEqual(self.way("0"), 2)
        self.assertEqual(self.way("1"), 1)
        self.assertEqual(self.way("0 - 1"), 1)
        self.assertEqual(self.way("7"), 1)
        self.assertEqual(self.way("x"), 2)
        self.assertEqual(self.way("x < 1"), 1)
        self.assertEqual(self.way("now"), 2)
        self.assertEqual(self.way("now", "rest"), 1)
        self.assertEqual(self.way("missed", "take 0"), 1)

    def test_what_comes_to_too_much_is_0(self):
        self.assertEqual(self.way("999999999 + 1"), 2)

    def test_numbers_of_what_comes_may_lie_far_on(self):
        program = ((("when", ("now",)), (1, 3)), (("rest",), 3), (("rest",), 3), (("rest",), 4))
        hall = gone(ROOMS, {"ann": program}, ["ann", "ann"])
        self.assertIs(hall.is_done("ann"), True)
        hall = gone(ROOMS, {"ann": program}, [None, "ann", "ann"])
        self.assertIs(hall.is_done("ann"), False)

    def test_may_lead_to_the_end(self):
        program = steps("when 0", "rest", "end")
        hall = gone(ROOMS, {"ann": program}, ["ann"])
        self.assertIs(hall.is_done("ann"), True)
        self.assertEqual(hall.moment(), 1)


class ReckonTest(HallTest):
    """Point [14]."""

    def reckoned(self, told, *ahead, waits=0):
        return self.locals_behind(*ahead, f"let r be {told}", waits=waits)[0]["r"]

    def test_things(self):
        self.assertEqual(self.reckoned("0"), 0)
        self.assertEqual(self.reckoned(f"{MOST}"), MOST)
        self.assertEqual(self.reckoned("x", "let x be 12"), 12)
        self.assertEqual(self.reckoned("now", waits=7), 7)
        self.assertEqual(self.reckoned("missed"), 0)

    def test_signs(self):
        self.assertEqual(self.reckoned("12 + 5"), 17)
        self.assertEqual(self.reckoned("12 - 5"), 7)
        self.assertEqual(self.reckoned("5 - 12"), -7)
        self.assertEqual(self.reckoned("12 * 5"), 60)
        self.assertEqual(self.reckoned("x * x", "let x be 0 - 4"), 16)
        self.assertEqual(self.reckoned("x * 3", "let x be 0 - 4"), -12)
        self.assertEqual(self.reckoned("x - y", "let x be 3", "let y be 0 - 4"), 7)

    def test_less_and_alike_tell_0_and_1(self):
        for left, right in ((1, 2), (2, 2), (3, 2)):
            less = self.reckoned(f"{left} < {right}")
            alike = self.reckoned(f"{left} = {right}")
            self.assertEqual((less, alike), (int(left < right), int(left == right)))
            self.assertIs(type(less), int)
            self.assertIs(type(alike), int)
        self.assertEqual(self.reckoned("x < 0", "let x be 0 - 1"), 1)
        self.assertEqual(self.reckoned("0 < x", "let x be 0 - 1"), 0)
        self.assertEqual(self.reckoned("x = y", "let x be 0 - 1", "let y be 0 - 1"), 1)

    def test_now_is_the_moment_of_the_step(self):
        self.assertEqual(self.reckoned("now", "rest", waits=3), 4)
        self.assertEqual(self.reckoned("now - 1"), -1)
        self.assertEqual(self.reckoned("now = 3", waits=3), 1)
        self.assertEqual(self.reckoned("now * now", waits=9), 81)

    def test_nine_figures_stay(self):
        self.assertEqual(self.reckoned("999999998 + 1"), MOST)
        self.assertEqual(self.reckoned("0 - 999999999"), -MOST)
        self.assertEqual(self.reckoned("x - 1", "let x be 0 - 999999998"), -MOST)
        self.assertEqual(self.reckoned("31622 * 31622"), 999950884)
        self.assertEqual(self.reckoned("x * 31622", "let x be 0 - 31622"), -999950884)
        self.assertEqual(self.reckoned("111111111 * 9"), MOST)
        self.assertEqual(self.reckoned("x * 9", "let x be 0 - 111111111"), -MOST)

    def test_ten_figures_come_to_0(self):
        self.assertEqual(self.reckoned("999999999 + 1"), 0)
        self.assertEqual(self.reckoned("999999999 + 999999999"), 0)
        self.assertEqual(self.reckoned("x - 1", "let x be 0 - 999999999"), 0)
        self.assertEqual(self.reckoned("31623 * 31623"), 0)
        self.assertEqual(self.reckoned("x * 31623", "let x be 0 - 31623"), 0)
        self.assertEqual(self.reckoned("999999999 * 999999999"), 0)
        self.assertEqual(self.reckoned("500000000 * 2"), 0)

    def test_comparing_big_worths(self):
        self.assertEqual(self.reckoned("999999998 < 999999999"), 1)
        self.assertEqual(self.reckoned("999999999 = 999999999"), 1)

    def test_what_is_set_is_cut_likewise(self):
        _, hall = self.locals_behind("set den to 999999999 + 1")
        self.assertEqual(hall.worths()["den"], 0)
        self.assertEqual(hall.log(), [("set", 0, "ann", "den", 0, ())])


class OwnTest(HallTest):
    """Point [2]: what is told is new, what is handed in is neither kept nor changed."""

    def setUp(self):
        self.programs = {
            "ann": steps("give look on den to bob since 0 until 9 passes 1 as x", "look den as y"),
            "bob": steps("look den as z"),
        }
        self.rooms = dict(ROOMS)

    def test_what_is_told_is_new(self):
        hall = gone(self.rooms, self.programs, ["ann", "bob"])
        before = copy.deepcopy(self.state(hall, "ann", "bob"))
        hall.locals_of("ann")["x"] = 77
        hall.locals_of("ann").clear()
        hall.worths()["den"] = 77
        hall.worths().clear()
        hall.leaves().append("leave")
        hall.leaves().clear()
        hall.log().append("row")
        hall.log().clear()
        self.assertEqual(self.state(hall, "ann", "bob"), before)

    def test_what_was_told_stays(self):
        hall = gone(self.rooms, self.programs, ["ann"])
        told = self.state(hall, "ann", "bob")
        before = copy.deepcopy(told)
        hall.go("ann")
        hall.go("bob")
        hall.wait(moments=20)
        self.assertEqual(told, before)

    def test_what_is_handed_in_is_not_kept(self):
        hall = Hall(self.rooms, self.programs)
        self.rooms["den"] = ("zoe", 9)
        self.rooms["cellar"] = ("zoe", 9)
        del self.rooms["attic"]
        self.programs["ann"] = REST
        del self.programs["bob"]
        for actor in ("ann", "ann", "bob"):
            hall.go(actor)
        self.assertEqual(hall.worths(), {"den": 5, "attic": -7})
        self.assertEqual(hall.locals_of("ann"), {"x": 0, "y": 5, "missed": 0})
        self.assertEqual(hall.locals_of("bob"), {"z": 5, "missed": 0})

    def test_what_is_handed_in_is_not_changed(self):
        before = copy.deepcopy((self.rooms, self.programs))
        hall = gone(self.rooms, self.programs, ["ann", "ann", "bob"])
        hall.wait(moments=20)
        self.assertEqual((self.rooms, self.programs), before)

    def test_two_halls_are_two(self):
        first, second = Hall(self.rooms, self.programs), Hall(self.rooms, self.programs)
        first.go("ann")
        self.assertEqual((second.moment(), second.leaves(), second.log()), (0, [], []))
        self.assertEqual(second.locals_of("ann"), {"missed": 0})


if __name__ == "__main__":
    unittest.main()
