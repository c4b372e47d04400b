"""Point [20], and plan_leaves: as few leaves as can be."""

import copy
import random
import unittest

import trust_model
from leavechain.ledger import Ledger
from leavechain.plans import is_plan, is_trust, least_plan, plan_leaves, tree_holds

LOOK, SET, BOTH = ("look",), ("set",), ("look", "set")


class LeastTest(unittest.TestCase):
    def assert_plan(self, trust, *plan):
        """That just this plan is told, with a tree that bars fewer."""
        self.assertTrue(is_trust(trust))
        told = least_plan(trust)
        self.assertEqual(told[:2], ("plan", plan))
        self.assert_right(trust, told)

    def assert_none(self, trust):
        self.assertTrue(is_trust(trust))
        told = least_plan(trust)
        self.assertEqual(told[0], "none")
        self.assert_right(trust, told)
        return told[1]

    def assert_right(self, trust, told):
        """That what is told is what the document promises, by another way too."""
        self.assertIs(type(told), tuple)
        many = trust_model.least_many(trust)
        if told[0] == "none":
            self.assertEqual(len(told), 2)
            self.assertIsNone(many)
            self.assertIs(tree_holds(trust, None, told[1]), True)
            self.assertTrue(trust_model.is_tree(trust, None, {}, told[1]))
            return
        word, plan, tree = told
        self.assertEqual(word, "plan")
        self.assertEqual(len(plan), many)
        self.assertIs(is_plan(trust, plan), True)
        self.assertEqual(plan, trust_model.just_so_wide(trust, plan))
        self.assertIs(tree_holds(trust, many - 1, tree), True)
        self.assertTrue(trust_model.is_tree(trust, many - 1, {}, tree))
        for most in (many, None):
            self.assertIs(tree_holds(trust, most, tree), False)

    def test_one_wish(self):
        for deeds in (LOOK, SET, BOTH):
            self.assert_plan(("ann", (("ann", "bob", 0, 10),), (("bob", deeds, 2, 5),)),
                             ("ann", "bob", deeds, 2, 5, 0))

    def test_one_wish_for_all_moments_of_its_tie(self):
        self.assert_plan(("ann", (("ann", "bob", 0, 1000000),), (("bob", LOOK, 0, 1000000),)),
                         ("ann", "bob", LOOK, 0, 1000000, 0))

    def test_the_tree_of_the_least_plans(self):
        trust = ("ann", (("ann", "bob", 0, 10),), (("bob", LOOK, 2, 5),))
        self.assertEqual(least_plan(trust)[2], ("many",))

    def test_wishes_by_the_owner_each(self):
        ties = (("ann", "bob", 0, 10), ("ann", "cid", 0, 10))
        self.assert_plan(("ann", ties, (("cid", SET, 1, 3), ("bob", LOOK, 2, 5))),
                         ("ann", "bob", LOOK, 2, 5, 0), ("ann", "cid", SET, 1, 3, 0))

    def test_a_chain_of_givers(self):
        ties = (("ann", "bob", 0, 10), ("bob", "cid", 0, 10), ("cid", "dan", 0, 10))
        self.assert_plan(("ann", ties, (("dan", SET, 4, 6),)),
                         ("ann", "bob", SET, 4, 6, 2), ("bob", "cid", SET, 4, 6, 1),
                         ("cid", "dan", SET, 4, 6, 0))

    def test_the_longest_chain(self):
        names = "abcdefgh"
        ties = tuple((giver, receiver, 0, 9) for giver, receiver in zip(names, names[1:]))
        self.assert_plan(("a", ties, (("h", LOOK, 1, 2),)),
                         *[(giver, holder, LOOK, 1, 2, 6 - at)
                           for at, (giver, holder) in enumerate(zip(names, names[1:]))])

    def test_the_shorter_of_two_chains(self):
        ties = (("ann", "bob", 0, 10), ("bob", "cid", 0, 10), ("cid", "dan", 0, 10),
                ("ann", "eve", 0, 10), ("eve", "dan", 0, 10))
        self.assert_plan(("ann", ties, (("dan", SET, 4, 6),)),
                         ("eve", "dan", SET, 4, 6, 0), ("ann", "eve", SET, 4, 6, 1))

    def test_the_longer_chain_where_the_shorter_lacks_a_moment(self):
        ties = (("ann", "bob", 0, 10), ("bob", "cid", 0, 10), ("cid", "dan", 0, 10),
                ("ann", "eve", 5, 10), ("eve", "dan", 0, 10))
        self.assert_plan(("ann", ties, (("dan", SET, 4, 6),)),
                         ("ann", "bob", SET, 4, 6, 2), ("bob", "cid", SET, 4, 6, 1),
                         ("cid", "dan", SET, 4, 6, 0))

    def test_wishes_that_share_a_giver(self):
        ties = (("ann", "eve", 0, 10), ("ann", "fay", 0, 10), ("ann", "guy", 0, 10),
                ("fay", "bob", 0, 10), ("guy", "cid", 0, 10), ("eve", "bob", 0, 10),
                ("eve", "cid", 0, 10))
        self.assert_plan(("ann", ties, (("bob", LOOK, 1, 3), ("cid", SET, 6, 8))),
                         ("eve", "bob", LOOK, 1, 3, 0), ("eve", "cid", SET, 6, 8, 0),
                         ("ann", "eve", BOTH, 1, 8, 1))

    def test_wishes_that_can_not_share_a_giver(self):
        ties = (("ann", "eve", 0, 5), ("ann", "eve", 5, 10), ("ann", "fay", 0, 10),
                ("fay", "bob", 0, 10), ("eve", "bob", 0, 10), ("eve", "cid", 0, 10))
        self.assert_plan(("ann", ties, (("bob", LOOK, 1, 3), ("cid", SET, 6, 8))),
                         ("fay", "bob", LOOK, 1, 3, 0), ("eve", "cid", SET, 6, 8, 0),
                         ("ann", "eve", SET, 6, 8, 1), ("ann", "fay", LOOK, 1, 3, 1))

    def test_a_giver_that_has_more_than_its_own_wish(self):
        ties = (("ann", "bob", 0, 10), ("bob", "cid", 0, 10))
        self.assert_plan(("ann", ties, (("bob", LOOK, 4, 5), ("cid", SET, 2, 9))),
                         ("ann", "bob", BOTH, 2, 9, 1), ("bob", "cid", SET, 2, 9, 0))
        self.assert_plan(("ann", ties, (("cid", BOTH, 5, 6), ("bob", LOOK, 1, 3))),
                         ("ann", "bob", BOTH, 1, 6, 1), ("bob", "cid", BOTH, 5, 6, 0))
        self.assert_plan(("ann", ties, (("cid", SET, 5, 6), ("bob", SET, 1, 9))),
                         ("ann", "bob", SET, 1, 9, 1), ("bob", "cid", SET, 5, 6, 0))

    def test_passes_are_one_more_than_the_most_below(self):
        ties = (("ann", "bob", 0, 10), ("bob", "cid", 0, 10), ("bob", "dan", 0, 10),
                ("dan", "eve", 0, 10))
        wishes = (("cid", LOOK, 1, 2), ("eve", LOOK, 1, 2), ("bob", LOOK, 1, 2))
        self.assert_plan(("ann", ties, wishes),
                         ("ann", "bob", LOOK, 1, 2, 2), ("bob", "cid", LOOK, 1, 2, 0),
                         ("bob", "dan", LOOK, 1, 2, 1), ("dan", "eve", LOOK, 1, 2, 0))

    def test_the_right_one_of_several_ties(self):
        ties = (("ann", "bob", 0, 4), ("ann", "bob", 3, 9), ("ann", "bob", 8, 12))
        self.assert_plan(("ann", ties, (("bob", SET, 3, 9),)), ("ann", "bob", SET, 3, 9, 0))
        self.assert_none(("ann", ties, (("bob", SET, 3, 10),)))

    def test_none_at_all(self):
        wish = (("bob", LOOK, 2, 5),)
        self.assertEqual(self.assert_none(("ann", (), wish)), ("giver", "bob", ()))
        self.assertEqual(self.assert_none(("ann", (("ann", "bob", 3, 9),), wish)),
                         ("giver", "bob", (("ann", ("time", "bob")),)))
        self.assertEqual(self.assert_none(("ann", (("ann", "bob", 0, 4),), wish)),
                         ("giver", "bob", (("ann", ("time", "bob")),)))
        self.assert_none(("ann", (("ann", "bob", 0, 3), ("ann", "bob", 3, 9)), wish))
        self.assert_none(("ann", (("bob", "ann", 0, 9),), wish))
        self.assert_none(("ann", (("cid", "bob", 0, 9),), wish))
        self.assert_none(("ann", (("cid", "bob", 0, 9), ("bob", "cid", 0, 9)), wish))
        self.assert_none(("ann", (("ann", "bob", 0, 9),), wish + (("cid", LOOK, 0, 1),)))

    def test_none_since_a_giver_must_have_more(self):
        ties = (("ann", "bob", 2, 9), ("bob", "cid", 0, 10))
        self.assert_plan(("ann", ties, (("cid", LOOK, 2, 9),)),
                         ("ann", "bob", LOOK, 2, 9, 1), ("bob", "cid", LOOK, 2, 9, 0))
        self.assert_none(("ann", ties, (("cid", LOOK, 1, 9),)))
        self.assert_none(("ann", ties, (("cid", LOOK, 2, 10),)))

    def test_trusts_by_chance(self):
        counts = {}
        for seed in range(1500):
            trust = trust_model.chance_trust(random.Random(seed))
            self.assertTrue(is_trust(trust))
            told = least_plan(trust)
            self.assert_right(trust, told)
            wishers = len(trust[2])
            kind = (told[0], len(told[1]) - wishers) if told[0] == "plan" else told[0]
            counts[kind] = counts.get(kind, 0) + 1
        for kind in ("none", ("plan", 0), ("plan", 1), ("plan", 2)):
            self.assertGreater(counts[kind], 10, counts)

    def test_the_widest_trusts(self):
        names = "bcdefgh"
        ties = [(names[(at + ahead) % 7], names[at], 0, 100) for at in range(6) for ahead in (1, 2, 3)]
        wishes = tuple((name, LOOK, 5, 10) for name in names[:6])
        trust = ("a", (*ties, ("a", "h", 0, 1), ("b", "h", 0, 100)), wishes)
        self.assertEqual(len(trust[1]), 20)
        self.assert_none(trust)
        trust = ("a", (*ties, ("a", "h", 0, 100), ("b", "h", 0, 100)), wishes)
        told = least_plan(trust)
        self.assert_right(trust, told)
        self.assertEqual(len(told[1]), 7)

    def test_what_is_handed_in_stays(self):
        trust = trust_model.chance_trust(random.Random(3))
        before = copy.deepcopy(trust)
        told = least_plan(trust=trust)
        self.assertEqual(trust, before)
        self.assertEqual(least_plan(trust), told)


class PlanLeavesTest(unittest.TestCase):
    def numbers(self, trust, plan):
        """The holders of a plan's leaves by their numbers, given by a ledger again."""
        self.assertTrue(is_plan(trust, plan))
        told = plan_leaves(trust, plan, "den")
        self.assertIs(type(told), list)
        ledger = Ledger({"den": (trust[0], 7)})
        for number, room, deeds, giver, holder, since, until, passes, _ in told:
            self.assertEqual(room, "den")
            self.assertIn((giver, holder, deeds, since, until, passes), plan)
            self.assertEqual(ledger.give(giver, deeds, room, holder, since, until, passes=passes), number)
        self.assertEqual(ledger.leaves(), told)
        self.assertEqual(len(told), len(plan))
        return [leave[4] for leave in told]

    def test_of_one(self):
        trust = ("ann", (("ann", "bob", 0, 10),), (("bob", LOOK, 2, 5),))
        plan = (("ann", "bob", LOOK, 2, 5, 0),)
        leaves = [(0, "den", LOOK, "ann", "bob", 2, 5, 0, None)]
        self.assertEqual(plan_leaves(trust, plan, "den"), leaves)
        self.assertEqual(plan_leaves(trust=trust, plan=plan, room="den"), leaves)
        self.assertEqual(plan_leaves(trust, plan, "set")[0][1], "set")

    def test_givers_go_ahead_of_those_that_they_give_to(self):
        trust = ("ann", (("ann", "dan", 0, 9), ("dan", "cid", 0, 9), ("cid", "bob", 0, 9)),
                 (("bob", SET, 2, 5),))
        self.assertEqual(plan_leaves(trust, least_plan(trust)[1], "den"), [
            (0, "den", SET, "ann", "dan", 2, 5, 2, None),
            (1, "den", SET, "dan", "cid", 2, 5, 1, 0),
            (2, "den", SET, "cid", "bob", 2, 5, 0, 1),
        ])

    def test_always_the_least_name_of_those_that_may_come(self):
        ties = (("z", "m", 0, 9), ("m", "a", 0, 9), ("m", "x", 0, 9), ("z", "p", 0, 9),
                ("p", "b", 0, 9), ("b", "c", 0, 9))
        wishes = tuple((name, LOOK, 2, 5) for name in "axcb")
        trust = ("z", ties, wishes)
        plan = least_plan(trust)[1]
        self.assertEqual([row[1] for row in plan], ["a", "b", "c", "m", "p", "x"])
        # M and p may come first; a and x behind m, b behind p, c behind b.
        self.assertEqual(self.numbers(trust, plan), ["m", "a", "p", "b", "c", "x"])
        self.assertEqual([leave[8] for leave in plan_leaves(trust, plan, "den")],
                         [None, 0, None, 2, 3, 0])

    def test_of_the_owner_all(self):
        ties = tuple(("ann", name, 0, 9) for name in ("dan", "bob", "cid"))
        trust = ("ann", ties, tuple((name, LOOK, 1, 2) for name in ("cid", "dan", "bob")))
        self.assertEqual(self.numbers(trust, least_plan(trust)[1]), ["bob", "cid", "dan"])

    def test_of_plans_that_are_not_the_least(self):
        ties = (("ann", "bob", 0, 9), ("ann", "cid", 0, 9), ("bob", "cid", 0, 9))
        trust = ("ann", ties, (("cid", LOOK, 1, 2),))
        plan = (("ann", "bob", BOTH, 0, 9, 6), ("bob", "cid", LOOK, 1, 3, 4))
        self.assertEqual(self.numbers(trust, plan), ["bob", "cid"])
        plan = (("ann", "bob", BOTH, 0, 9, 6), ("ann", "cid", LOOK, 1, 3, 4))
        self.assertEqual([leave[8] for leave in plan_leaves(trust, plan, "den")], [None, None])

    def test_by_chance(self):
        many = 0
        for seed in range(400):
            trust = trust_model.chance_trust(random.Random(seed), most_names=7)
            told = least_plan(trust)
            if told[0] == "plan":
                many += 1
                holders = self.numbers(trust, told[1])
                givers = {row[1]: row[0] for row in told[1]}
                for at, holder in enumerate(holders):
                    ready = [name for name in givers if name not in holders[:at]
                             and givers[name] in (trust[0], *holders[:at])]
                    self.assertEqual(holder, min(ready))
        self.assertGreater(many, 100)

    def test_what_is_told_is_new(self):
        trust = ("ann", (("ann", "bob", 0, 10),), (("bob", LOOK, 2, 5),))
        plan = (("ann", "bob", LOOK, 2, 5, 0),)
        plan_leaves(trust, plan, "den").clear()
        self.assertEqual(len(plan_leaves(trust, plan, "den")), 1)


if __name__ == "__main__":
    unittest.main()
