"""Points [4] and [7] to [10]: the ledger."""

import unittest

from leavechain.errors import HallError, NoGift, NoHall, NoLeave, NoMoment, NoRoom, NotLet
from leavechain.ledger import Ledger

LOOK = ("look",)
SET = ("set",)
BOTH = ("look", "set")


def made_ledger():
    """A ledger of two rooms: the den is ann's, the attic zoe's."""
    return Ledger({"den": ("ann", 5), "attic": ("zoe", 7)})


class LedgerTest(unittest.TestCase):
    def setUp(self):
        self.ledger = made_ledger()

    def state(self):
        return (self.ledger.moment(), self.ledger.leaves(), self.ledger.taken())

    def assert_refused(self, refusal, method, *told, **named):
        """That a call is refused with just this class, and changes nothing."""
        before = self.state()
        with self.assertRaises(HallError) as caught:
            method(*told, **named)
        self.assertIs(type(caught.exception), refusal)
        self.assertEqual(self.state(), before)

    def give(self, giver, holder, since=0, until=100, passes=0, deeds=BOTH, room="den"):
        return self.ledger.give(giver, deeds, room, holder, since, until, passes=passes)

    def under(self, number):
        """The under of a leave that was given."""
        return self.ledger.leaves()[number][8]

    def give_line(self, *actors, since=0, until=100):
        """Leaves along the actors, each passed on by the one ahead; their numbers."""
        numbers = []
        for at in range(len(actors) - 1):
            passes = len(actors) - 2 - at
            numbers.append(self.give(actors[at], actors[at + 1], since, until, passes))
        return numbers


class MadeTest(LedgerTest):
    def test_a_new_ledger(self):
        self.assertEqual(self.ledger.moment(), 0)
        self.assertEqual(self.ledger.leaves(), [])
        self.assertEqual(self.ledger.taken(), {})

    def test_of_no_rooms(self):
        for thing in ({}, None, [], "den", {"den": ["ann", 5]}, {"den": ("ann", True)},
                      {name: ("ann", 1) for name in "abcde"}, {"Den": ("ann", 1)}):
            with self.subTest(thing=thing):
                with self.assertRaises(HallError) as caught:
                    Ledger(thing)
                self.assertIs(type(caught.exception), NoHall)

    def test_rooms_that_are_handed_in_are_not_kept(self):
        rooms = {"den": ("ann", 5)}
        ledger = Ledger(rooms)
        rooms["den"] = ("bob", 5)
        rooms["attic"] = ("bob", 5)
        self.assertEqual(ledger.chain("ann", "look", "den"), ())
        self.assertIsNone(ledger.chain("bob", "look", "den"))
        self.assertRaises(NoRoom, ledger.chain, "bob", "look", "attic")
        ledger.give("ann", BOTH, "den", "bob", 0, 9)
        self.assertEqual(rooms, {"den": ("bob", 5), "attic": ("bob", 5)})

    def test_what_is_told_is_the_askers_own(self):
        number = self.give("ann", "bob")
        self.ledger.take("ann", number)
        leaves, taken = self.ledger.leaves(), self.ledger.taken()
        leaves.clear()
        taken.clear()
        self.assertEqual(len(self.ledger.leaves()), 1)
        self.assertEqual(self.ledger.taken(), {0: 0})
        leaves, taken = self.ledger.leaves(), self.ledger.taken()
        self.ledger.take("ann", self.give("ann", "bob"))
        self.assertEqual((len(leaves), taken), (1, {0: 0}))

    def test_ledgers_know_nothing_of_each_other(self):
        self.give("ann", "bob")
        self.assertEqual(made_ledger().leaves(), [])
        self.assertEqual(made_ledger().taken(), {})

    def test_arguments_by_name(self):
        ledger = Ledger(rooms={"den": ("ann", 5)})
        number = ledger.give(
            giver="ann", deeds=LOOK, room="den", holder="bob", since=0, until=9, passes=1,
        )
        ledger.move_on(moment=1)
        self.assertIs(ledger.stands(number=number), True)
        self.assertEqual(ledger.chain(actor="bob", deed="look", room="den"), (0,))
        self.assertIsNone(ledger.why_not(actor="bob", deed="look", room="den"))
        ledger.take(actor="ann", number=number)
        self.assertEqual(ledger.taken(), {0: 1})

    def test_passes_are_told_by_name_alone(self):
        with self.assertRaises(TypeError):
            self.ledger.give("ann", BOTH, "den", "bob", 0, 9, 1)
        self.assertEqual(self.ledger.leaves(), [])


class MomentTest(LedgerTest):
    def test_later_moments_and_the_same(self):
        for moment in (0, 1, 1, 5, 999999, 1000000, 1000000):
            self.assertIsNone(self.ledger.move_on(moment))
            self.assertEqual(self.ledger.moment(), moment)

    def test_other_moments_are_refused(self):
        self.ledger.move_on(7)
        for moment in (6, 0, -1, 1000001, 10 ** 9, None, "8", 8.0, True, (8,), [8]):
            with self.subTest(moment=moment):
                self.assert_refused(NoMoment, self.ledger.move_on, moment)
        self.assertEqual(self.ledger.moment(), 7)


class StandsTest(LedgerTest):
    def test_from_its_since_to_ahead_of_its_until(self):
        number = self.give("ann", "bob", 3, 6)
        told = {}
        for moment in range(8):
            self.ledger.move_on(moment)
            told[moment] = self.ledger.stands(number)
        self.assertEqual([moment for moment in told if told[moment] is True], [3, 4, 5])
        self.assertEqual([moment for moment in told if told[moment] is False], [0, 1, 2, 6, 7])

    def test_a_leave_of_one_moment(self):
        number = self.give("ann", "bob", 0, 1)
        self.assertIs(self.ledger.stands(number), True)
        self.ledger.move_on(1)
        self.assertIs(self.ledger.stands(number), False)

    def test_a_since_that_is_past(self):
        self.ledger.move_on(5)
        self.assertIs(self.ledger.stands(self.give("ann", "bob", 2, 6)), True)

    def test_taken_back_it_stands_no_more_from_that_moment_on(self):
        number = self.give("ann", "bob", 0, 9)
        self.ledger.move_on(4)
        self.assertIs(self.ledger.stands(number), True)
        self.ledger.take("ann", number)
        self.assertIs(self.ledger.stands(number), False)
        self.ledger.move_on(5)
        self.assertIs(self.ledger.stands(number), False)
        self.ledger.move_on(10)
        self.assertIs(self.ledger.stands(number), False)

    def test_what_was_given_under_it_stands_no_more(self):
        top, middle, low = self.give_line("ann", "bob", "cid", "dan")
        beside = self.give("ann", "eve")
        self.assertTrue(all(self.ledger.stands(n) for n in (top, middle, low, beside)))
        self.ledger.take("bob", middle)
        told = [self.ledger.stands(n) for n in (top, middle, low, beside)]
        self.assertEqual(told, [True, False, False, True])

    def test_the_highest_taken_back(self):
        numbers = self.give_line("ann", "bob", "cid", "dan", "eve")
        self.ledger.take("ann", numbers[0])
        self.assertEqual([self.ledger.stands(n) for n in numbers], [False] * 4)

    def test_under_one_that_is_to_come(self):
        self.give("ann", "bob", 4, 9, 1)
        number = self.give("bob", "cid", 5, 7)
        for moment, told in ((0, False), (4, False), (5, True), (6, True), (7, False)):
            self.ledger.move_on(moment)
            self.assertIs(self.ledger.stands(number), told)

    def test_numbers_that_no_leave_has(self):
        self.assert_refused(NoLeave, self.ledger.stands, 0)
        self.give("ann", "bob")
        self.assertIs(self.ledger.stands(0), True)
        for number in (1, 2, -1, 10 ** 9):
            self.assert_refused(NoLeave, self.ledger.stands, number)


class ChainTest(LedgerTest):
    def test_the_owner(self):
        for deed in BOTH:
            self.assertEqual(self.ledger.chain("ann", deed, "den"), ())
            self.assertEqual(self.ledger.chain("zoe", deed, "attic"), ())
            self.assertIsNone(self.ledger.chain("zoe", deed, "den"))
            self.assertIsNone(self.ledger.chain("ann", deed, "attic"))

    def test_the_owner_with_a_leave_on_the_own_room(self):
        self.give("ann", "bob", passes=1)
        self.give("bob", "ann")
        self.assertEqual(self.ledger.chain("ann", "look", "den"), ())
        self.assertIsNone(self.ledger.why_not("ann", "look", "den"))

    def test_all_above_it_from_the_one_that_the_owner_gave_on(self):
        self.give("ann", "eve")
        numbers = self.give_line("ann", "bob", "cid", "dan")
        self.assertEqual(numbers, [1, 2, 3])
        self.assertEqual(self.ledger.chain("bob", "look", "den"), (1,))
        self.assertEqual(self.ledger.chain("cid", "set", "den"), (1, 2))
        self.assertEqual(self.ledger.chain("dan", "look", "den"), (1, 2, 3))

    def test_the_deed_and_the_room(self):
        self.give("ann", "bob", deeds=LOOK)
        self.assertEqual(self.ledger.chain("bob", "look", "den"), (0,))
        self.assertIsNone(self.ledger.chain("bob", "set", "den"))
        self.assertIsNone(self.ledger.chain("bob", "look", "attic"))
        self.give("ann", "bob", deeds=SET)
        self.assertEqual(self.ledger.chain("bob", "set", "den"), (1,))
        self.assertEqual(self.ledger.chain("bob", "look", "den"), (0,))
        self.give("zoe", "bob", deeds=BOTH, room="attic")
        self.assertEqual(self.ledger.chain("bob", "set", "attic"), (2,))
        self.assertEqual(self.ledger.chain("bob", "look", "attic"), (2,))

    def test_the_standing_one_of_least_number(self):
        self.give("ann", "bob", 2, 9)
        self.give("ann", "bob", 0, 4)
        self.give("ann", "bob", 0, 6)
        for moment, told in ((0, (1,)), (1, (1,)), (2, (0,)), (8, (0,)), (9, None)):
            self.ledger.move_on(moment)
            self.assertEqual(self.ledger.chain("bob", "look", "den"), told)

    def test_one_that_is_taken_back_is_passed_over(self):
        self.give("ann", "bob")
        self.give("ann", "bob")
        self.ledger.take("ann", 0)
        self.assertEqual(self.ledger.chain("bob", "look", "den"), (1,))
        self.ledger.take("ann", 1)
        self.assertIsNone(self.ledger.chain("bob", "look", "den"))

    def test_one_under_one_that_is_taken_back_is_passed_over(self):
        self.give_line("ann", "bob", "cid")
        self.give_line("ann", "dan", "cid")
        self.assertEqual(self.ledger.chain("cid", "look", "den"), (0, 1))
        self.ledger.take("ann", 0)
        self.assertEqual(self.ledger.chain("cid", "look", "den"), (2, 3))

    def test_nobody_and_strangers(self):
        self.give("ann", "bob")
        self.assertIsNone(self.ledger.chain("cid", "look", "den"))
        self.assertIsNone(self.ledger.chain("zoe", "look", "den"))

    def test_no_such_room(self):
        for room in ("cellar", "", "Den", "ann"):
            self.assert_refused(NoRoom, self.ledger.chain, "ann", "look", room)


class GiveTest(LedgerTest):
    def test_leaves_are_numbered_as_they_are_given(self):
        self.assertEqual(self.give("ann", "bob", 0, 9, 2, LOOK), 0)
        self.assertEqual(self.give("zoe", "bob", 1, 8, 0, SET, "attic"), 1)
        self.assertEqual(self.give("bob", "cid", 2, 7, 1, LOOK), 2)
        self.assertEqual(
            self.ledger.leaves(),
            [
                (0, "den", LOOK, "ann", "bob", 0, 9, 2, None),
                (1, "attic", SET, "zoe", "bob", 1, 8, 0, None),
                (2, "den", LOOK, "bob", "cid", 2, 7, 1, 0),
            ],
        )

    def test_passes_left_out(self):
        self.ledger.give("ann", BOTH, "den", "bob", 0, 9)
        self.assertEqual(self.ledger.leaves(), [(0, "den", BOTH, "ann", "bob", 0, 9, 0, None)])

    def test_passes_from_0_to_6(self):
        for passes in range(7):
            number = self.give("ann", "bob", passes=passes)
            self.assertEqual(self.ledger.leaves()[number][7], passes)
        for passes in (-1, 7, 8, True, None, "1"):
            self.assert_refused(NoGift, self.give, "ann", "bob", passes=passes)

    def test_seven_one_under_the_other(self):
        actors = ("ann", "b", "c", "d", "e", "f", "g", "h")
        self.assertEqual(self.give_line(*actors), list(range(7)))
        self.assertEqual(self.ledger.chain("h", "set", "den"), tuple(range(7)))
        self.assert_refused(NotLet, self.give, "h", "i")

    def test_the_owner_gives_without_an_under(self):
        self.give("ann", "bob", passes=6)
        self.give("bob", "ann", passes=5)
        self.give("ann", "cid", passes=1)
        self.assertEqual([leave[8] for leave in self.ledger.leaves()], [None, 0, None])

    def test_the_owner_of_another_room_is_as_anybody_else(self):
        self.assert_refused(NotLet, self.give, "zoe", "bob")
        self.assert_refused(NotLet, self.give, "ann", "bob", room="attic")

    def test_each_condition_of_lying_within(self):
        self.ledger.give("ann", LOOK, "den", "bob", 10, 20, passes=3)
        self.ledger.give("zoe", BOTH, "attic", "bob", 0, 99, passes=1)
        give = self.ledger.give
        for giver, deeds, room, since, until, passes in (
            ("bob", SET, "den", 10, 20, 2),
            ("bob", BOTH, "den", 10, 20, 2),
            ("bob", LOOK, "den", 9, 20, 2),
            ("bob", LOOK, "den", 10, 21, 2),
            ("bob", LOOK, "den", 10, 20, 3),
            ("bob", LOOK, "den", 10, 20, 4),
            ("cid", LOOK, "den", 10, 20, 2),
            ("bob", LOOK, "attic", 10, 20, 1),
        ):
            self.assert_refused(
                NotLet, give, giver, deeds, room, "dan", since, until, passes=passes,
            )
        self.assertEqual(give("bob", LOOK, "den", "dan", 10, 20, passes=2), 2)
        self.assertEqual(give("bob", LOOK, "den", "dan", 11, 19), 3)
        self.assertEqual(give("bob", SET, "attic", "dan", 10, 20), 4)
        self.assertEqual([leave[8] for leave in self.ledger.leaves()[2:]], [0, 0, 1])

    def test_under_the_one_of_least_number(self):
        self.give("ann", "bob", 0, 5, 1)
        self.give("ann", "bob", 0, 9, 1)
        self.give("ann", "bob", 0, 9, 2)
        self.give("ann", "bob", 0, 9, 6)
        for until, passes, under in ((5, 0, 0), (6, 0, 1), (9, 1, 2), (5, 2, 3), (9, 5, 3)):
            number = self.give("bob", "cid", 0, until, passes)
            self.assertEqual(self.under(number), under)

    def test_under_one_that_is_to_come(self):
        self.give("ann", "bob", 5, 9, 1)
        self.give("ann", "bob", 0, 9, 1)
        number = self.give("bob", "cid", 6, 8)
        self.assertEqual(self.under(number), 0)
        self.give("ann", "dan", 5, 9, 2)
        self.give("dan", "eve", 6, 9, 1)
        self.assertEqual(self.under(self.give("eve", "fay", 6, 8)), 4)

    def test_under_one_that_is_over(self):
        self.give("ann", "bob", 0, 5, 1)
        self.ledger.move_on(4)
        self.assertEqual(self.under(self.give("bob", "cid", 0, 5)), 0)
        self.ledger.move_on(5)
        self.assert_refused(NoGift, self.give, "bob", "cid", 0, 5)
        self.assert_refused(NotLet, self.give, "bob", "cid", 0, 6)

    def test_under_one_that_is_taken_back(self):
        self.give("ann", "bob", passes=1)
        self.give("ann", "bob", passes=1)
        self.ledger.take("ann", 0)
        self.assertEqual(self.under(self.give("bob", "cid")), 1)
        self.ledger.take("ann", 1)
        self.assert_refused(NotLet, self.give, "bob", "cid")

    def test_under_one_that_is_to_come_and_taken_back(self):
        self.give("ann", "bob", 5, 9, 1)
        self.ledger.take("ann", 0)
        self.assert_refused(NotLet, self.give, "bob", "cid", 5, 9)

    def test_under_one_above_which_one_is_taken_back(self):
        self.give("ann", "bob", passes=3)
        self.give("bob", "cid", passes=2)
        self.give("cid", "dan", passes=1)
        self.ledger.take("ann", 0)
        self.assert_refused(NotLet, self.give, "dan", "eve")
        self.assert_refused(NotLet, self.give, "cid", "eve")
        self.give("ann", "cid", passes=1)
        self.assertEqual(self.under(self.give("cid", "eve")), 3)

    def test_an_until_that_is_now_or_past(self):
        self.ledger.move_on(7)
        self.assert_refused(NoGift, self.give, "ann", "bob", 0, 7)
        self.assert_refused(NoGift, self.give, "ann", "bob", 0, 6)
        self.assertEqual(self.give("ann", "bob", 0, 8), 0)
        self.assertEqual(self.give("ann", "bob", 7, 8), 1)
        self.assertEqual(self.give("ann", "bob", 8, 9), 2)
        self.assertEqual(self.give("ann", "bob", 20, 1000000), 3)

    def test_what_makes_no_leave(self):
        give = self.ledger.give
        for told in (
            ("ann", (), "den", "bob", 0, 9),
            ("ann", ("set", "look"), "den", "bob", 0, 9),
            ("ann", ["look"], "den", "bob", 0, 9),
            ("ann", "look", "den", "bob", 0, 9),
            ("ann", BOTH, "den", "ann", 0, 9),
            ("ann", BOTH, "den", "Bob", 0, 9),
            ("ann", BOTH, "den", "bobbobbob", 0, 9),
            ("ann", BOTH, "den", "", 0, 9),
            ("ann", BOTH, "den", "bob", 9, 9),
            ("ann", BOTH, "den", "bob", 9, 8),
            ("ann", BOTH, "den", "bob", -1, 9),
            ("ann", BOTH, "den", "bob", 0, 1000001),
            ("ann", BOTH, "den", "bob", 0, -1),
            ("Ann", BOTH, "den", "bob", 0, 9),
        ):
            with self.subTest(told=told):
                self.assert_refused(NoGift, give, *told)

    def test_which_refusal_goes_first(self):
        give = self.ledger.give
        self.assert_refused(NoRoom, give, "ann", (), "cellar", "ann", 9, 0, passes=7)
        self.assert_refused(NoRoom, give, "ann", LOOK, "cellar", "bob", 0, 9)
        self.assert_refused(NoRoom, give, "bob", LOOK, "cellar", "cid", 0, 9)
        self.assert_refused(NoGift, give, "bob", LOOK, "den", "bob", 0, 9)
        self.assert_refused(NoGift, give, "bob", LOOK, "den", "cid", 0, 9, passes=7)
        self.assert_refused(NotLet, give, "bob", LOOK, "den", "cid", 0, 9, passes=6)
        self.ledger.move_on(9)
        self.assert_refused(NoRoom, give, "bob", LOOK, "cellar", "cid", 0, 9)
        self.assert_refused(NoGift, give, "bob", LOOK, "den", "cid", 0, 9)
        self.assert_refused(NotLet, give, "bob", LOOK, "den", "cid", 0, 10)

    def test_a_refused_giving_uses_up_no_number(self):
        self.assert_refused(NotLet, self.give, "bob", "cid")
        self.assertEqual(self.give("ann", "bob"), 0)
        self.assert_refused(NoGift, self.give, "ann", "ann")
        self.assertEqual(self.give("ann", "bob"), 1)


class TakeTest(LedgerTest):
    def setUp(self):
        super().setUp()
        self.give_line("ann", "bob", "cid", "dan")
        self.give("ann", "eve")

    def test_by_the_giver(self):
        self.assertIsNone(self.ledger.take("cid", 2))
        self.assertEqual(self.ledger.taken(), {2: 0})

    def test_by_the_rooms_owner(self):
        self.ledger.move_on(3)
        self.ledger.take("ann", 2)
        self.assertEqual(self.ledger.taken(), {2: 3})
        self.ledger.move_on(4)
        self.ledger.take("ann", 0)
        self.assertEqual(self.ledger.taken(), {2: 3, 0: 4})

    def test_by_a_holder_above(self):
        self.ledger.take("bob", 2)
        self.assertEqual(self.ledger.taken(), {2: 0})

    def test_by_a_holder_above_whose_leave_stands_no_more(self):
        self.ledger.take("ann", 0)
        self.assertIs(self.ledger.stands(2), False)
        self.ledger.take("bob", 2)
        self.ledger.take("bob", 1)
        self.assertEqual(self.ledger.taken(), {0: 0, 2: 0, 1: 0})

    def test_by_a_holder_above_whose_leave_is_still_to_come(self):
        ledger = made_ledger()
        ledger.give("ann", LOOK, "den", "bob", 5, 9, passes=2)
        ledger.give("bob", LOOK, "den", "cid", 6, 9, passes=1)
        ledger.give("cid", LOOK, "den", "dan", 7, 9)
        ledger.take("bob", 2)
        self.assertEqual(ledger.taken(), {2: 0})

    def test_not_by_the_holder_itself(self):
        for actor, number in (("bob", 0), ("cid", 1), ("dan", 2), ("eve", 3)):
            self.assert_refused(NotLet, self.ledger.take, actor, number)

    def test_by_a_holder_that_holds_above_too(self):
        number = self.ledger.give("cid", LOOK, "den", "bob", 0, 9)
        self.assertEqual(self.under(number), 1)
        self.ledger.take("bob", number)
        self.assertEqual(self.ledger.taken(), {number: 0})

    def test_by_a_holder_that_owns_the_room(self):
        number = self.ledger.give("cid", LOOK, "den", "ann", 0, 9)
        self.ledger.take("ann", number)
        self.assertEqual(self.ledger.taken(), {number: 0})

    def test_not_by_strangers_nor_from_below(self):
        for number in range(4):
            for actor in ("zoe", "fay", "den", ""):
                self.assert_refused(NotLet, self.ledger.take, actor, number)
        for actor in ("cid", "dan", "eve"):
            self.assert_refused(NotLet, self.ledger.take, actor, 0)
        for actor in ("dan", "eve"):
            self.assert_refused(NotLet, self.ledger.take, actor, 1)
        for actor in ("bob", "cid", "dan"):
            self.assert_refused(NotLet, self.ledger.take, actor, 3)

    def test_the_owner_of_another_room(self):
        number = self.give("zoe", "bob", room="attic")
        self.assert_refused(NotLet, self.ledger.take, "ann", number)
        self.ledger.take("zoe", number)

    def test_that_leave_alone_is_taken_back(self):
        self.ledger.take("ann", 0)
        self.assertEqual(self.ledger.taken(), {0: 0})
        self.assertEqual([self.ledger.stands(n) for n in range(4)], [False, False, False, True])
        self.assertEqual(len(self.ledger.leaves()), 4)

    def test_no_such_leave(self):
        for number in (4, 5, -1, 10 ** 9):
            self.assert_refused(NoLeave, self.ledger.take, "ann", number)

    def test_taken_back_already(self):
        self.ledger.take("ann", 1)
        self.ledger.move_on(2)
        self.assert_refused(NoLeave, self.ledger.take, "ann", 1)
        self.assertEqual(self.ledger.taken(), {1: 0})

    def test_over_already(self):
        self.ledger.move_on(99)
        self.ledger.take("cid", 2)
        self.ledger.move_on(100)
        self.assert_refused(NoLeave, self.ledger.take, "ann", 0)
        self.assert_refused(NoLeave, self.ledger.take, "ann", 2)

    def test_still_to_come(self):
        number = self.give("ann", "bob", 50, 60)
        self.ledger.take("ann", number)
        self.ledger.move_on(55)
        self.assertIs(self.ledger.stands(number), False)

    def test_what_is_above_it_does_not_matter(self):
        self.ledger.take("ann", 0)
        self.ledger.take("ann", 1)
        self.ledger.take("cid", 2)
        self.assertEqual(sorted(self.ledger.taken()), [0, 1, 2])

    def test_no_leave_goes_ahead_of_not_let(self):
        self.assert_refused(NoLeave, self.ledger.take, "fay", 4)
        self.ledger.take("ann", 1)
        self.assert_refused(NoLeave, self.ledger.take, "fay", 1)
        self.assert_refused(NotLet, self.ledger.take, "fay", 2)
        self.ledger.move_on(100)
        self.assert_refused(NoLeave, self.ledger.take, "fay", 2)


class WhyNotTest(LedgerTest):
    def why(self, actor, deed="look", room="den"):
        return self.ledger.why_not(actor, deed, room)

    def test_none_where_it_is_let(self):
        self.assertIsNone(self.why("ann"))
        self.give("ann", "bob", 5, 9)
        self.give("ann", "bob", 0, 9)
        self.assertIsNone(self.why("bob"))
        self.assertIsNone(self.why("bob", "set"))

    def test_nothing_where_it_has_none(self):
        self.assertEqual(self.why("bob"), ())
        self.give("ann", "bob", deeds=SET)
        self.give("zoe", "bob", room="attic")
        self.give("ann", "cid")
        self.assertEqual(self.why("bob"), ())
        self.assertEqual(self.why("zoe"), ())
        self.assertEqual(self.why("ann", "set", "attic"), ())

    def test_early_and_over(self):
        self.give("ann", "bob", 3, 5)
        told = {}
        for moment in range(7):
            self.ledger.move_on(moment)
            told[moment] = self.why("bob")
        early, over = ((0, 0, "early"),), ((0, 0, "over"),)
        self.assertEqual(
            told, {0: early, 1: early, 2: early, 3: None, 4: None, 5: over, 6: over},
        )

    def test_taken_goes_ahead_of_early_and_over(self):
        self.give("ann", "bob", 3, 5)
        self.ledger.take("ann", 0)
        for moment in range(7):
            self.ledger.move_on(moment)
            self.assertEqual(self.why("bob"), ((0, 0, "taken"),))

    def test_the_first_link_from_the_top(self):
        self.give("ann", "bob", 2, 9, 2)
        self.give("bob", "cid", 3, 8, 1)
        self.give("cid", "dan", 4, 7)
        for moment, told in (
            (0, (2, 0, "early")), (1, (2, 0, "early")), (2, (2, 1, "early")),
            (3, (2, 2, "early")), (4, None), (6, None), (7, (2, 2, "over")),
            (8, (2, 1, "over")), (9, (2, 0, "over")),
        ):
            self.ledger.move_on(moment)
            self.assertEqual(self.why("dan"), None if told is None else (told,))

    def test_links_that_are_taken_back(self):
        self.give("ann", "bob", 2, 9, 2)
        self.give("bob", "cid", 3, 8, 1)
        self.give("cid", "dan", 4, 7)
        self.ledger.take("bob", 1)
        self.assertEqual(self.why("dan"), ((2, 0, "early"),))
        self.ledger.move_on(2)
        self.assertEqual(self.why("dan"), ((2, 1, "taken"),))
        self.ledger.take("ann", 2)
        self.assertEqual(self.why("dan"), ((2, 1, "taken"),))
        self.ledger.take("ann", 0)
        self.assertEqual(self.why("dan"), ((2, 0, "taken"),))
        self.assertEqual(self.why("cid"), ((1, 0, "taken"),))

    def test_several_leaves_by_numbers(self):
        self.give("ann", "bob", 5, 9, 1)
        self.give("ann", "cid", 0, 2, 1)
        self.give("cid", "bob", 0, 2)
        self.give("ann", "bob", 6, 9, deeds=SET)
        self.give("ann", "bob", 0, 9, deeds=LOOK)
        self.ledger.take("ann", 4)
        self.ledger.move_on(2)
        self.assertEqual(self.why("bob"), ((0, 0, "early"), (2, 1, "over"), (4, 4, "taken")))
        self.assertEqual(
            self.why("bob", "set"), ((0, 0, "early"), (2, 1, "over"), (3, 3, "early")),
        )

    def test_no_such_room(self):
        self.assert_refused(NoRoom, self.ledger.why_not, "ann", "look", "cellar")
        self.assert_refused(NoRoom, self.ledger.why_not, "bob", "look", "")


if __name__ == "__main__":
    unittest.main()
