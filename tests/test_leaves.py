"""Points [2], [5] and [6]: what rooms and leaves are, and lying within."""

import copy
import unittest

from leavechain.leaves import is_leave, is_rooms, lies_within

LEAVE = (3, "den", ("look", "set"), "ann", "bob", 5, 9, 2, 1)
NUMBER, ROOM, DEEDS, GIVER, HOLDER, SINCE, UNTIL, PASSES, UNDER = range(9)


class LikeAll:
    """A thing that calls itself like anything else."""

    def __eq__(self, other):
        return True

    def __hash__(self):
        return hash("look")


class Whole(int):
    """An int that is no truth."""


NO_THINGS = (
    None, True, False, 0, 1, -1, 2.5, "", "den", "look", b"den", [], (), {}, set(),
    frozenset(), object(), LikeAll(), int, len, range(9), [("ann", 1)], (("ann", 1),),
    {"den"}, "room den of ann holds 1\n", float("nan"), 1j,
)
NO_WHOLES = (None, True, False, 1.0, "1", (1,), [1], {1: 1}, LikeAll(), b"1")
NO_NAMES = (
    None, True, 1, "", "abcdefghi", "Ann", "an n", "ann ", "an1", "a_b", "a-b", "\u00e4",
    "ann\n", "\u00df", b"ann", ("ann",), ["ann"], {}, LikeAll(), "%", "{", "`", "@", "[",
)


def changed(place, thing):
    """The leave with another thing at one of its places."""
    return LEAVE[:place] + (thing,) + LEAVE[place + 1:]


class RoomsTest(unittest.TestCase):
    def test_rooms(self):
        for rooms in (
            {"den": ("ann", 0)},
            {"den": ("ann", 1), "attic": ("ann", 2)},
            {"a": ("z", 1), "b": ("z", 1), "c": ("y", 1), "d": ("d", 1)},
            {"abcdefgh": ("zyxwvuts", 5)},
            {"look": ("set", 5)},
            {"z": ("a", Whole(3))},
        ):
            with self.subTest(rooms=rooms):
                self.assertIs(is_rooms(rooms), True)

    def test_none_or_five_rooms(self):
        self.assertIs(is_rooms({}), False)
        self.assertIs(is_rooms({name: ("ann", 1) for name in "abcd"}), True)
        self.assertIs(is_rooms({name: ("ann", 1) for name in "abcde"}), False)

    def test_names_of_rooms_and_owners(self):
        for name in NO_NAMES:
            with self.subTest(name=name):
                self.assertIs(is_rooms({"den": (name, 1)}), False)
                if not isinstance(name, (list, dict)):
                    self.assertIs(is_rooms({name: ("ann", 1)}), False)

    def test_worths_of_nine_and_of_ten_figures(self):
        for worth in (0, 1, -1, 999999999, -999999999):
            self.assertIs(is_rooms({"den": ("ann", worth)}), True)
        for worth in (1000000000, -1000000000, 10 ** 40):
            self.assertIs(is_rooms({"den": ("ann", worth)}), False)
        for worth in NO_WHOLES:
            with self.subTest(worth=worth):
                self.assertIs(is_rooms({"den": ("ann", worth)}), False)

    def test_what_a_room_holds_is_a_tuple_of_two(self):
        for held in (["ann", 1], ("ann",), ("ann", 1, 1), (), ("ann", 1, None), (1, "ann"),
                     "an", {"ann": 1}, None, 1, ("ann", ("ann", 1))):
            with self.subTest(held=held):
                self.assertIs(is_rooms({"den": held}), False)

    def test_one_wrong_room_of_several(self):
        for wrong in ("a", "b", "c", "d"):
            rooms = {name: ("ann", 1) for name in "abcd"}
            rooms[wrong] = ("ann", True)
            self.assertIs(is_rooms(rooms), False)

    def test_of_anything(self):
        for thing in NO_THINGS:
            with self.subTest(thing=thing):
                self.assertIs(is_rooms(thing), False)
        self.assertIs(is_rooms(LEAVE), False)

    def test_deep_things(self):
        deep = ()
        for _ in range(99):
            deep = (deep, [deep])[:1]
        self.assertIs(is_rooms({"den": ("ann", deep)}), False)
        self.assertIs(is_leave(changed(DEEDS, deep)), False)
        self.assertIs(is_leave(deep), False)

    def test_what_is_handed_in_stays(self):
        rooms = {"den": ("ann", 1), "attic": ["bob", 2]}
        before = copy.deepcopy(rooms)
        is_rooms(rooms)
        self.assertEqual(rooms, before)
        self.assertEqual(list(rooms), list(before))


class LeaveTest(unittest.TestCase):
    def check(self, place, right, wrong):
        for thing in right:
            with self.subTest(place=place, right=thing):
                self.assertIs(is_leave(changed(place, thing)), True)
        for thing in wrong:
            with self.subTest(place=place, wrong=thing):
                self.assertIs(is_leave(changed(place, thing)), False)

    def test_leaves(self):
        self.assertIs(is_leave(LEAVE), True)
        self.assertIs(is_leave((0, "a", ("look",), "b", "c", 0, 1, 0, None)), True)

    def test_parts_more_or_fewer(self):
        for many in range(9):
            self.assertIs(is_leave(LEAVE[:many]), False)
        self.assertIs(is_leave(LEAVE + (None,)), False)
        self.assertIs(is_leave(LEAVE + (0,)), False)

    def test_lists_for_tuples(self):
        self.assertIs(is_leave(list(LEAVE)), False)
        self.check(DEEDS, (), (["look"], ["set"], ["look", "set"]))

    def test_number(self):
        self.check(NUMBER, (2, 3, 999999999, 10 ** 12, Whole(4)), (-1, 0, 1, *NO_WHOLES))
        for number, told in ((0, True), (1, True), (-1, False), (True, False), (False, False)):
            self.assertIs(is_leave((number,) + changed(UNDER, None)[1:]), told)

    def test_names(self):
        self.check(ROOM, ("a", "abcdefgh", "look", "ann", "bob"), NO_NAMES)
        self.check(GIVER, ("a", "abcdefgh", "set", "den"), NO_NAMES)
        self.check(HOLDER, ("a", "abcdefgh", "set", "den"), NO_NAMES)

    def test_giver_and_holder_are_unlike(self):
        self.check(GIVER, (), ("bob",))
        self.check(HOLDER, (), ("ann",))

    def test_deeds(self):
        self.check(
            DEEDS,
            (("look",), ("set",), ("look", "set")),
            (
                (), ("set", "look"), ("look", "look"), ("set", "set"), ("look", "set", "look"),
                ("see",), "look", "set", "look+set", ("look+set",), (("look",),), None, 1,
                {"look": 1}, (LikeAll(),), ("look", LikeAll()), LikeAll(), {"look"}, (b"look",),
                (["look"],), (None,),
            ),
        )

    def test_since_and_until(self):
        self.check(SINCE, (0, 1, 8), (9, 10, -1, 1000000, *NO_WHOLES))
        self.check(UNTIL, (6, 7, 1000000), (5, 4, 0, -1, 1000001, *NO_WHOLES))
        self.assertIs(is_leave(LEAVE[:5] + (999999, 1000000) + LEAVE[7:]), True)
        self.assertIs(is_leave(LEAVE[:5] + (1000000, 1000001) + LEAVE[7:]), False)
        self.assertIs(is_leave(LEAVE[:5] + (1000000, 1000000) + LEAVE[7:]), False)

    def test_passes(self):
        self.check(PASSES, range(7), (-1, 7, 8, *NO_WHOLES))

    def test_under(self):
        self.check(UNDER, (None, 0, 1, 2), (3, 4, -1, "none", *NO_WHOLES[1:]))
        first = (0,) + LEAVE[1:]
        self.assertIs(is_leave(first[:8] + (None,)), True)
        self.assertIs(is_leave(first[:8] + (0,)), False)

    def test_of_anything(self):
        for thing in NO_THINGS:
            with self.subTest(thing=thing):
                self.assertIs(is_leave(thing), False)
        self.assertIs(is_leave((None,) * 9), False)
        self.assertIs(is_leave((LikeAll(),) * 9), False)
        self.assertIs(is_leave(([],) * 9), False)
        self.assertIs(is_leave("lookingat"), False)
        self.assertIs(is_leave({"den": ("ann", 1)}), False)


class WithinTest(unittest.TestCase):
    OTHER = (1, "den", ("look", "set"), "ann", "bob", 5, 9, 2, None)
    WITHIN = (2, "den", ("look", "set"), "bob", "cid", 5, 9, 1, 1)

    def within(self, place, thing):
        leave = self.WITHIN[:place] + (thing,) + self.WITHIN[place + 1:]
        return lies_within(leave, self.OTHER)

    def test_as_wide_but_for_the_passes(self):
        self.assertIs(lies_within(self.WITHIN, self.OTHER), True)
        self.assertIs(lies_within(self.OTHER, self.WITHIN), False)
        self.assertIs(lies_within(self.OTHER, self.OTHER), False)

    def test_the_room(self):
        self.assertIs(self.within(ROOM, "attic"), False)

    def test_the_deeds(self):
        self.assertIs(self.within(DEEDS, ("look",)), True)
        self.assertIs(self.within(DEEDS, ("set",)), True)
        for deed, other in (("look", "set"), ("set", "look")):
            narrow = self.OTHER[:DEEDS] + ((deed,),) + self.OTHER[DEEDS + 1:]
            for deeds, told in (((deed,), True), ((other,), False), (("look", "set"), False)):
                leave = self.WITHIN[:DEEDS] + (deeds,) + self.WITHIN[DEEDS + 1:]
                self.assertIs(lies_within(leave, narrow), told)

    def test_the_since(self):
        self.assertIs(self.within(SINCE, 4), False)
        self.assertIs(self.within(SINCE, 6), True)

    def test_the_until(self):
        self.assertIs(self.within(UNTIL, 10), False)
        self.assertIs(self.within(UNTIL, 8), True)

    def test_the_passes(self):
        self.assertIs(self.within(PASSES, 0), True)
        self.assertIs(self.within(PASSES, 2), False)
        self.assertIs(self.within(PASSES, 3), False)

    def test_the_giver(self):
        self.assertIs(self.within(GIVER, "ann"), False)
        self.assertIs(self.within(GIVER, "dan"), False)

    def test_no_more_than_these(self):
        self.assertIs(self.within(HOLDER, "ann"), True)
        self.assertIs(self.within(UNDER, None), True)
        self.assertIs(self.within(NUMBER, 9), True)


if __name__ == "__main__":
    unittest.main()
