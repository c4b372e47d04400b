"""Point [19]: what is a trust, and what is a plan of one."""

import copy
import unittest
import unittest.mock

from leavechain.plans import is_plan, is_trust

LOOK, SET, BOTH = ("look",), ("set",), ("look", "set")
TIE = ("ann", "bob", 0, 10)
WISH = ("bob", LOOK, 2, 5)
TRUST = ("ann", (TIE,), (WISH,))
NO_NAMES = (None, "", "Ann", "an n", 1, True, ("ann",), ["ann"], "abcdefghi", b"ann", unittest.mock.ANY)
NO_MOMENTS = (None, -1, True, False, "3", 3.0, (3,), [3], 1000001, unittest.mock.ANY)
NO_DEEDS = (None, (), "look", ["look"], ("set", "look"), ("look", "look"), ("give",), ("look", "set", "set"),
            (("look",),), {"look"}, unittest.mock.ANY)
ANYTHING = (None, 0, 1, True, "", "ann", b"", (), [], {}, [()], ((),), 5.5, object(), ((), (), ()),
            (None, None, None), unittest.mock.ANY)


def with_part(thing, at, part):
    """A tuple with another part at one place."""
    return thing[:at] + (part,) + thing[at + 1:]


class TrustTest(unittest.TestCase):
    def test_trusts(self):
        for thing in (
            TRUST,
            ("ann", (), (WISH,)),
            ("ann", (TIE, TIE), (WISH,)),
            ("ann", (TIE, ("ann", "bob", 3, 4)), (WISH,)),
            ("ann", (("bob", "ann", 0, 1),), (WISH,)),
            ("ann", (("cid", "dan", 0, 1),), (WISH,)),
            ("ann", (("ann", "bob", 0, 1000000),), (("bob", BOTH, 0, 1000000),)),
            ("ann", (("ann", "bob", 999999, 1000000),), (("bob", SET, 0, 1),)),
            ("ann", (TIE,), (("zoe", LOOK, 2, 5), WISH)),
            ("set", (("set", "look", 0, 1),), (("look", LOOK, 2, 5),)),
        ):
            with self.subTest(thing=thing):
                self.assertIs(is_trust(thing), True)
                self.assertIs(is_trust(thing=thing), True)

    def test_of_anything(self):
        for thing in ANYTHING:
            with self.subTest(thing=thing):
                self.assertIs(is_trust(thing), False)
                for at in range(3):
                    # No ties are ties, and ann is a name.
                    if (at, repr(thing)) in ((0, "'ann'"), (1, "()")):
                        continue
                    self.assertIs(is_trust(with_part(TRUST, at, thing)), False)
                self.assertIs(is_trust(("ann", (thing,), (WISH,))), False)
                self.assertIs(is_trust(("ann", (TIE,), (thing,))), False)
                self.assertIs(is_trust(("ann", (TIE, thing), (WISH,))), False)
                self.assertIs(is_trust(("ann", (TIE,), (WISH, thing))), False)

    def test_parts_more_or_fewer_and_lists(self):
        for thing in (TRUST[:2], TRUST + ((),), TRUST[1:], list(TRUST), ("ann", [TIE], (WISH,)),
                      ("ann", (TIE,), [WISH]), ("ann", (list(TIE),), (WISH,)),
                      ("ann", (TIE,), (list(WISH),)), ("ann", (TIE[:3],), (WISH,)),
                      ("ann", (TIE + (1,),), (WISH,)), ("ann", (TIE,), (WISH[:3],)),
                      ("ann", (TIE,), (WISH + (0,),)), ("ann", TIE, WISH), ("ann", {TIE: 1}, (WISH,))):
            with self.subTest(thing=thing):
                self.assertIs(is_trust(thing), False)

    def test_names_that_are_none(self):
        for name in NO_NAMES:
            with self.subTest(name=name):
                self.assertIs(is_trust((name, (TIE,), (WISH,))), False)
                self.assertIs(is_trust(("ann", ((name, "bob", 0, 10),), (WISH,))), False)
                self.assertIs(is_trust(("ann", (("ann", name, 0, 10),), (WISH,))), False)
                self.assertIs(is_trust(("ann", (TIE,), ((name, LOOK, 2, 5),))), False)

    def test_moments_that_are_none(self):
        for moment in NO_MOMENTS:
            with self.subTest(moment=moment):
                for at in (2, 3):
                    self.assertIs(is_trust(("ann", (with_part(TIE, at, moment),), (WISH,))), False)
                    self.assertIs(is_trust(("ann", (TIE,), (with_part(WISH, at, moment),))), False)

    def test_deeds_that_are_none(self):
        for deeds in NO_DEEDS:
            with self.subTest(deeds=deeds):
                self.assertIs(is_trust(("ann", (TIE,), (("bob", deeds, 2, 5),))), False)

    def test_since_is_below_until(self):
        for since, until, right in ((3, 4, True), (4, 4, False), (5, 4, False), (0, 0, False)):
            tie, wish = ("ann", "bob", since, until), ("bob", LOOK, since, until)
            self.assertIs(is_trust(("ann", (tie,), (WISH,))), right)
            self.assertIs(is_trust(("ann", (TIE,), (wish,))), right)

    def test_a_tie_has_unlike_names(self):
        self.assertIs(is_trust(("ann", (("bob", "bob", 0, 10),), (WISH,))), False)
        self.assertIs(is_trust(("ann", (TIE, ("ann", "ann", 0, 10)), (WISH,))), False)

    def test_ties_are_at_most_twenty(self):
        ties = tuple(("ann", "bob", at, at + 1) for at in range(21))
        self.assertIs(is_trust(("ann", ties[:20], (WISH,))), True)
        self.assertIs(is_trust(("ann", ties, (WISH,))), False)
        self.assertIs(is_trust(("ann", (TIE,) * 20, (WISH,))), True)
        self.assertIs(is_trust(("ann", (TIE,) * 21, (WISH,))), False)

    def test_wishes_are_one_to_six(self):
        wishes = tuple((name, LOOK, 0, 1) for name in "bcdefgh")
        for many in range(8):
            self.assertIs(is_trust(("a", (), wishes[:many])), 1 <= many <= 6)

    def test_wishes_are_of_unlike_actors(self):
        self.assertIs(is_trust(("ann", (TIE,), (WISH, WISH))), False)
        self.assertIs(is_trust(("ann", (TIE,), (WISH, ("bob", SET, 8, 9)))), False)
        self.assertIs(is_trust(("ann", (TIE,), (WISH, ("cid", LOOK, 1, 2), ("bob", SET, 8, 9)))), False)

    def test_wishes_are_not_of_the_owner(self):
        self.assertIs(is_trust(("bob", (TIE,), (WISH,))), False)
        self.assertIs(is_trust(("ann", (TIE,), (WISH, ("ann", LOOK, 2, 5)))), False)

    def test_names_are_at_most_seven_beside_the_owners(self):
        def line(names):
            return tuple((giver, receiver, 0, 9) for giver, receiver in zip(names, names[1:]))
        wish = (("b", LOOK, 0, 1),)
        self.assertIs(is_trust(("a", line("abcdefgh"), wish)), True)
        self.assertIs(is_trust(("a", line("abcdefghi"), wish)), False)
        self.assertIs(is_trust(("a", line("bcdefgh"), wish)), True)
        self.assertIs(is_trust(("a", line("bcdefghi"), wish)), False)
        self.assertIs(is_trust(("z", line("abcdefg"), wish)), True)
        self.assertIs(is_trust(("z", line("abcdefgh"), wish)), False)
        # Names of wishes alone count, too.
        self.assertIs(is_trust(("a", line("abcdefg"), (("h", LOOK, 0, 1),))), True)
        self.assertIs(is_trust(("a", line("abcdefgh"), (("i", LOOK, 0, 1),))), False)
        wishes = tuple((name, LOOK, 0, 1) for name in "bcdefg")
        self.assertIs(is_trust(("a", line("ahi")[:1], wishes)), True)
        self.assertIs(is_trust(("a", line("ahi"), wishes)), False)
        self.assertIs(is_trust(("a", (("h", "a", 0, 1),), wishes)), True)
        self.assertIs(is_trust(("a", (("h", "i", 0, 1),), wishes)), False)


# Ann trusts bob for all moments, bob trusts cid for some, and dan for others.
CHAIN = (
    "ann",
    (("ann", "bob", 0, 100), ("bob", "cid", 10, 50), ("bob", "dan", 20, 30), ("bob", "dan", 30, 40),
     ("cid", "dan", 0, 100)),
    (("cid", LOOK, 15, 20), ("dan", SET, 22, 28)),
)
PLAN = (
    ("ann", "bob", BOTH, 10, 30, 2),
    ("bob", "cid", LOOK, 15, 20, 0),
    ("bob", "dan", SET, 22, 28, 0),
)


class PlanTest(unittest.TestCase):
    def assert_plan(self, right, plan, trust=CHAIN):
        self.assertIs(is_plan(trust, plan), right)

    def changed(self, row, **parts):
        """The plan with another leave at one place."""
        names = ("giver", "holder", "deeds", "since", "until", "passes")
        told = dict(zip(names, PLAN[row]))
        told.update(parts)
        return with_part(PLAN, row, tuple(told[name] for name in names))

    def test_plans(self):
        self.assert_plan(True, PLAN)
        self.assertIs(is_plan(trust=CHAIN, thing=PLAN), True)
        self.assert_plan(True, (("ann", "bob", LOOK, 2, 5, 0),), TRUST)

    def test_leaves_may_be_wider_than_they_must(self):
        self.assert_plan(True, self.changed(0, since=0, until=100, passes=6))
        self.assert_plan(True, self.changed(1, deeds=BOTH, since=10, until=30, passes=1))
        self.assert_plan(True, self.changed(2, since=20, until=30))

    def test_leaves_may_be_more_than_they_must(self):
        trust = ("ann", (TIE, ("ann", "cid", 0, 9)), (WISH,))
        self.assert_plan(True, (("ann", "bob", LOOK, 2, 5, 0), ("ann", "cid", LOOK, 0, 1, 0)), trust)

    def test_of_anything(self):
        for thing in (*ANYTHING, list(PLAN), [list(row) for row in PLAN], tuple(list(row) for row in PLAN)):
            with self.subTest(thing=thing):
                self.assert_plan(False, thing)
                self.assert_plan(False, PLAN + (thing,))
                for row in range(3):
                    self.assert_plan(False, with_part(PLAN, row, thing))
                    self.assert_plan(False, with_part(PLAN, row, PLAN[row] + (thing,)))
                    self.assert_plan(False, with_part(PLAN, row, PLAN[row][:-1]))

    def test_parts_that_are_none(self):
        for row in range(3):
            for name in NO_NAMES:
                self.assert_plan(False, self.changed(row, giver=name))
                self.assert_plan(False, self.changed(row, holder=name))
            for moment in NO_MOMENTS:
                self.assert_plan(False, self.changed(row, since=moment))
                self.assert_plan(False, self.changed(row, until=moment))
            for deeds in NO_DEEDS:
                self.assert_plan(False, self.changed(row, deeds=deeds))
            for passes in (None, -1, 7, True, False, "0", 0.0, 2.0, (2,)):
                self.assert_plan(False, self.changed(row, passes=passes))

    def test_since_is_below_until(self):
        trust = ("ann", (TIE, ("ann", "cid", 0, 9)), (WISH,))
        rows = (("ann", "bob", LOOK, 2, 5, 0),)
        for since, until in ((4, 5), (5, 5), (6, 5)):
            self.assert_plan(since < until, rows + (("ann", "cid", LOOK, since, until, 0),), trust)

    def test_by_holders_names(self):
        for order in ((0, 2, 1), (1, 0, 2), (1, 2, 0), (2, 0, 1), (2, 1, 0)):
            self.assert_plan(False, tuple(PLAN[at] for at in order))

    def test_no_holder_twice(self):
        for at in range(3):
            self.assert_plan(False, PLAN[:at + 1] + PLAN[at:])
        # Not by another giver either, though both are right by themselves.
        wide = (("ann", "bob", BOTH, 10, 30, 3), ("bob", "cid", BOTH, 15, 28, 1))
        self.assert_plan(True, (*wide, ("cid", "dan", SET, 22, 28, 0)))
        self.assert_plan(True, (*wide, ("bob", "dan", SET, 22, 28, 0)))
        self.assert_plan(False, (*wide, ("bob", "dan", SET, 22, 28, 0), ("cid", "dan", SET, 22, 28, 0)))

    def test_the_owner_is_no_holder(self):
        trust = ("ann", (TIE, ("bob", "ann", 0, 10)), (WISH,))
        rows = (("ann", "bob", LOOK, 2, 5, 1),)
        self.assert_plan(True, rows, trust)
        self.assert_plan(False, (("bob", "ann", LOOK, 2, 5, 0),) + rows, trust)

    def test_each_along_a_tie(self):
        self.assert_plan(False, PLAN, ("ann", CHAIN[1][1:], CHAIN[2]))
        for at in range(5):
            ties = CHAIN[1][:at] + CHAIN[1][at + 1:]
            self.assert_plan(at in (3, 4), PLAN, ("ann", ties, CHAIN[2]))
        self.assert_plan(False, self.changed(1, giver="ann"))
        self.assert_plan(False, self.changed(2, giver="ann"))

    def test_a_tie_the_other_way_round_is_none(self):
        self.assert_plan(False, (("ann", "bob", LOOK, 2, 5, 0),),
                         ("ann", (("bob", "ann", 0, 10),), (WISH,)))

    def test_within_the_moments_of_one_tie(self):
        self.assert_plan(True, self.changed(2, since=20, until=30))
        self.assert_plan(False, self.changed(2, since=19))
        # Two ties side by side do not make a wider one.
        wider = with_part(PLAN, 0, ("ann", "bob", BOTH, 10, 60, 2))
        self.assert_plan(False, with_part(wider, 2, ("bob", "dan", SET, 22, 31, 0)))
        self.assert_plan(True, with_part(wider, 1, ("bob", "cid", LOOK, 10, 50, 0)))
        self.assert_plan(False, with_part(wider, 1, ("bob", "cid", LOOK, 10, 51, 0)))
        wider = with_part(PLAN, 0, ("ann", "bob", BOTH, 9, 60, 2))
        self.assert_plan(False, with_part(wider, 1, ("bob", "cid", LOOK, 9, 50, 0)))
        self.assert_plan(True, self.changed(0, since=0, until=100))
        self.assert_plan(False, self.changed(0, since=0, until=101))

    def test_the_giver_has_a_leave(self):
        self.assert_plan(False, PLAN[1:])
        self.assert_plan(False, PLAN[1:2], ("ann", CHAIN[1], CHAIN[2][:1]))

    def test_within_the_givers_leave(self):
        self.assert_plan(False, self.changed(0, deeds=LOOK))
        self.assert_plan(False, self.changed(0, deeds=SET))
        self.assert_plan(True, self.changed(0, since=15))
        self.assert_plan(False, self.changed(0, since=16))
        self.assert_plan(True, self.changed(0, until=28))
        self.assert_plan(False, self.changed(0, until=27))
        self.assert_plan(True, self.changed(0, passes=1))
        self.assert_plan(False, self.changed(0, passes=0))
        self.assert_plan(True, self.changed(1, passes=1))
        self.assert_plan(False, self.changed(1, passes=2))

    def test_no_round_of_givers(self):
        trust = ("ann", (("bob", "cid", 0, 9), ("cid", "bob", 0, 9)), (("bob", LOOK, 1, 2),))
        for one in range(7):
            for two in range(7):
                self.assert_plan(False, (("cid", "bob", LOOK, 1, 2, one), ("bob", "cid", LOOK, 1, 2, two)),
                                 trust)

    def test_each_wish_is_granted(self):
        self.assert_plan(False, PLAN[:2])
        self.assert_plan(False, (PLAN[0], PLAN[2]))
        self.assert_plan(False, ())
        self.assert_plan(True, PLAN[:2], ("ann", CHAIN[1], CHAIN[2][:1]))
        self.assert_plan(False, PLAN, ("ann", CHAIN[1], CHAIN[2] + (("eve", LOOK, 1, 2),)))

    def test_a_wish_that_lacks_a_deed(self):
        self.assert_plan(False, self.changed(1, deeds=SET))
        self.assert_plan(False, self.changed(2, deeds=LOOK))
        self.assert_plan(True, self.changed(2, deeds=BOTH))
        wishes = (CHAIN[2][0], ("dan", BOTH, 22, 28))
        self.assert_plan(False, PLAN, ("ann", CHAIN[1], wishes))
        self.assert_plan(True, self.changed(2, deeds=BOTH), ("ann", CHAIN[1], wishes))

    def test_a_wish_that_lacks_a_moment(self):
        self.assert_plan(False, self.changed(1, since=16))
        self.assert_plan(False, self.changed(1, until=19))
        self.assert_plan(False, self.changed(2, since=23))
        self.assert_plan(False, self.changed(2, until=27))

    def test_what_is_handed_in_stays(self):
        things = [CHAIN, PLAN, [list(row) for row in PLAN]]
        before = copy.deepcopy(things)
        for thing in things:
            is_trust(thing)
            is_plan(CHAIN, thing)
        self.assertEqual(things, before)


if __name__ == "__main__":
    unittest.main()
