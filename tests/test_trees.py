"""Point [21]: trees that bar all plans of at most so many leaves."""

import copy
import random
import unittest
import unittest.mock

import trust_model
from leavechain.plans import least_plan, tree_holds

LOOK, SET, BOTH = ("look",), ("set",), ("look", "set")
MANY = ("many",)


def giver(actor, **trees):
    """The tree that goes on to an actor, by its givers' names in the given order."""
    return ("giver", actor, tuple(trees.items()))


class TreeTest(unittest.TestCase):
    def assert_holds(self, right, trust, most, tree):
        self.assertIs(tree_holds(trust, most, tree), right)


class ManyTest(TreeTest):
    TRUST = ("ann", (("ann", "bob", 0, 9), ("bob", "cid", 0, 9)), (("cid", LOOK, 1, 2),))

    def test_a_most_of_0(self):
        self.assert_holds(True, self.TRUST, 0, MANY)

    def test_a_most_of_one(self):
        self.assert_holds(False, self.TRUST, 1, MANY)
        self.assert_holds(True, self.TRUST, 1, giver("cid", bob=MANY))

    def test_a_most_of_just_as_many_as_the_least_plan(self):
        for tree in (MANY, giver("cid", bob=MANY), giver("cid", bob=giver("bob", ann=MANY))):
            self.assert_holds(False, self.TRUST, 2, tree)
            self.assert_holds(False, self.TRUST, 3, tree)

    def test_none(self):
        for tree in (MANY, giver("cid", bob=MANY), giver("cid", bob=giver("bob", ann=MANY))):
            self.assert_holds(False, self.TRUST, None, tree)

    def test_one_more_must_be(self):
        # Where all that must be settled are, no many bars, however few may be.
        trust = ("ann", (("ann", "bob", 0, 9),), (("bob", LOOK, 1, 2),))
        for most in (0, 1, 2, None):
            self.assert_holds(False, trust, most, giver("bob", ann=MANY))

    def test_a_barred_case_may_be_gone_through_all_the_same(self):
        self.assert_holds(True, self.TRUST, 0, giver("cid", bob=MANY))
        self.assert_holds(True, self.TRUST, 1, giver("cid", bob=MANY))
        self.assert_holds(False, self.TRUST, 0, giver("cid", bob=giver("bob", ann=MANY)))

    def test_arguments_by_name(self):
        self.assertIs(tree_holds(trust=self.TRUST, most=0, tree=MANY), True)


class RingTest(TreeTest):
    TRUST = ("ann", (("bob", "cid", 0, 9), ("cid", "bob", 0, 9)), (("bob", LOOK, 1, 2),))

    def test_of_two(self):
        for name in ("bob", "cid"):
            tree = giver("bob", cid=giver("cid", bob=("ring", name)))
            for most in (None, 2, 3):
                self.assert_holds(True, self.TRUST, most, tree)

    def test_that_is_not_closed(self):
        self.assert_holds(False, self.TRUST, None, giver("bob", cid=("ring", "bob")))
        self.assert_holds(False, self.TRUST, None, giver("bob", cid=("ring", "cid")))
        self.assert_holds(False, self.TRUST, None, ("ring", "bob"))

    def test_of_names_that_are_not_settled(self):
        for name in ("ann", "dan", "", "Bob", "ring"):
            tree = giver("bob", cid=giver("cid", bob=("ring", name)))
            self.assert_holds(False, self.TRUST, None, tree)

    def test_of_three(self):
        ties = (("cid", "bob", 0, 9), ("dan", "cid", 0, 9), ("bob", "dan", 0, 9))
        trust = ("ann", ties, (("bob", LOOK, 1, 2),))
        for name in ("bob", "cid", "dan"):
            tree = giver("bob", cid=giver("cid", dan=giver("dan", bob=("ring", name))))
            self.assert_holds(True, trust, None, tree)

    def test_that_does_not_come_round_to_the_actor_itself(self):
        # Going up from dan one comes into the ring of bob and cid, but not round to dan.
        ties = (("bob", "dan", 0, 9), ("cid", "bob", 0, 9), ("bob", "cid", 0, 9))
        trust = ("ann", ties, (("dan", LOOK, 1, 2),))
        for name, right in (("dan", False), ("bob", True), ("cid", True)):
            tree = giver("dan", bob=giver("bob", cid=giver("cid", bob=("ring", name))))
            self.assert_holds(right, trust, None, tree)

    def test_a_chain_up_to_the_owner_is_no_ring(self):
        trust = ("ann", (("ann", "bob", 0, 9), ("bob", "cid", 0, 9)), (("cid", LOOK, 1, 2),))
        for name in ("ann", "bob", "cid"):
            self.assert_holds(False, trust, None, giver("cid", bob=giver("bob", ann=("ring", name))))


class TimeTest(TreeTest):
    def test_of_an_own_wish(self):
        for since, until, barred in ((2, 5, False), (1, 5, True), (2, 6, True), (0, 9, True),
                                     (3, 4, False), (5, 6, True), (1, 2, True)):
            trust = ("ann", (("ann", "bob", 2, 5),), (("bob", LOOK, since, until),))
            self.assert_holds(barred, trust, None, giver("bob", ann=("time", "bob")))
            self.assert_holds(barred, trust, 1, giver("bob", ann=("time", "bob")))

    def test_of_several_ties(self):
        ties = (("ann", "bob", 0, 4), ("ann", "bob", 4, 9), ("ann", "bob", 2, 6))
        for since, until in ((0, 4), (1, 3), (4, 9), (2, 6), (3, 5), (5, 6), (0, 5), (3, 7), (1, 5)):
            trust = ("ann", ties, (("bob", LOOK, since, until),))
            barred = (since, until) in ((0, 5), (3, 7), (1, 5))
            self.assert_holds(barred, trust, None, giver("bob", ann=("time", "bob")))

    def test_ties_of_others_do_not_count(self):
        ties = (("ann", "bob", 3, 4), ("cid", "bob", 0, 9), ("ann", "cid", 0, 9), ("bob", "ann", 0, 9))
        trust = ("ann", ties, (("bob", LOOK, 3, 5),))
        tree = giver("bob", ann=("time", "bob"), cid=giver("cid", ann=("time", "cid")))
        self.assert_holds(False, trust, None, tree)
        self.assert_holds(True, trust, 1, giver("bob", ann=("time", "bob"), cid=MANY))

    def test_of_those_below(self):
        ties = (("ann", "bob", 2, 9), ("bob", "cid", 0, 9))
        for since, until, barred in ((2, 9, False), (1, 9, True), (2, 10, True)):
            trust = ("ann", ties, (("cid", LOOK, since, until),))
            for name in ("bob", "cid"):
                right = barred and (name == "bob" or until == 10)
                tree = giver("cid", bob=giver("bob", ann=("time", name)))
                self.assert_holds(right, trust, None, tree)

    def test_from_the_first_since_to_the_last_until(self):
        ties = (("ann", "bob", 0, 5), ("ann", "bob", 4, 9), ("bob", "cid", 0, 9), ("bob", "dan", 0, 9))
        wishes = (("cid", LOOK, 1, 2), ("dan", LOOK, 7, 8))
        tree = giver("cid", bob=giver("dan", bob=giver("bob", ann=("time", "bob"))))
        self.assert_holds(True, ("ann", ties, wishes), None, tree)
        self.assert_holds(False, ("ann", (*ties, ("ann", "bob", 1, 8)), wishes), None, tree)
        self.assert_holds(True, ("ann", (*ties, ("ann", "bob", 2, 8)), wishes), None, tree)
        self.assert_holds(True, ("ann", (*ties, ("ann", "bob", 1, 7)), wishes), None, tree)

    def test_of_its_own_wish_and_those_below(self):
        ties = (("ann", "bob", 0, 5), ("bob", "cid", 0, 9))
        wishes = (("bob", LOOK, 1, 2), ("cid", LOOK, 5, 6))
        # Ahead of cid bob's own wish is all that counts.
        self.assert_holds(False, ("ann", ties, wishes), None, giver("bob", ann=("time", "bob")))
        tree = giver("bob", ann=giver("cid", bob=("time", "bob")))
        self.assert_holds(True, ("ann", ties, wishes), None, tree)
        tree = giver("cid", bob=giver("bob", ann=("time", "bob")))
        self.assert_holds(True, ("ann", ties, wishes[::-1]), None, tree)

    def test_of_names_that_are_not_settled(self):
        trust = ("ann", (("ann", "bob", 2, 5),), (("bob", LOOK, 1, 5),))
        for name in ("ann", "cid", "", "time", "Bob"):
            self.assert_holds(False, trust, None, giver("bob", ann=("time", name)))
        self.assert_holds(False, trust, None, ("time", "bob"))
        # What stands in no tie at all is not settled either.
        self.assert_holds(False, ("ann", (), (("bob", LOOK, 1, 5),)), None, ("time", "bob"))

    def test_within_a_ring(self):
        ties = (("cid", "bob", 0, 9), ("bob", "cid", 0, 3))
        trust = ("ann", ties, (("bob", LOOK, 4, 5),))
        for bar, right in ((("time", "cid"), True), (("time", "bob"), False), (("ring", "cid"), True)):
            self.assert_holds(right, trust, None, giver("bob", cid=giver("cid", bob=bar)))

    def test_deeds_do_not_matter(self):
        for deeds in (LOOK, SET, BOTH):
            trust = ("ann", (("ann", "bob", 2, 5),), (("bob", deeds, 1, 5),))
            self.assert_holds(True, trust, None, giver("bob", ann=("time", "bob")))


class NextTest(TreeTest):
    """The next actor, and its givers."""

    def test_by_the_wishes_order(self):
        ties = (("ann", "bob", 5, 9), ("ann", "cid", 5, 9))
        wishes = (("cid", LOOK, 1, 2), ("bob", LOOK, 1, 2))
        self.assert_holds(True, ("ann", ties, wishes), None, giver("cid", ann=("time", "cid")))
        self.assert_holds(False, ("ann", ties, wishes), None, giver("bob", ann=("time", "bob")))
        self.assert_holds(True, ("ann", ties, wishes[::-1]), None, giver("bob", ann=("time", "bob")))

    def test_wishes_go_ahead_of_givers(self):
        ties = (("dan", "bob", 0, 9), ("eve", "cid", 0, 9), ("ann", "dan", 5, 9), ("ann", "eve", 5, 9))
        trust = ("ann", ties, (("cid", LOOK, 1, 2), ("bob", LOOK, 1, 2)))
        self.assert_holds(False, trust, None, giver("cid", eve=giver("eve", ann=("time", "eve"))))
        # Givers come as the actors to whom they give were settled, not by names.
        tree = giver("cid", eve=giver("bob", dan=giver("eve", ann=("time", "eve"))))
        self.assert_holds(True, trust, None, tree)
        tree = giver("cid", eve=giver("bob", dan=giver("dan", ann=("time", "dan"))))
        self.assert_holds(False, trust, None, tree)

    def test_givers_of_givers(self):
        ties = (("cid", "bob", 0, 9), ("dan", "cid", 0, 9), ("ann", "dan", 5, 9))
        trust = ("ann", ties, (("bob", LOOK, 1, 2),))
        tree = giver("bob", cid=giver("cid", dan=giver("dan", ann=("time", "dan"))))
        self.assert_holds(True, trust, None, tree)

    def test_a_settled_giver_does_not_come_again(self):
        ties = (("ann", "bob", 0, 9), ("bob", "cid", 3, 9))
        trust = ("ann", ties, (("bob", LOOK, 1, 2), ("cid", LOOK, 1, 2)))
        self.assert_holds(True, trust, None, giver("bob", ann=giver("cid", bob=("time", "cid"))))
        tree = giver("bob", ann=giver("cid", bob=giver("bob", ann=("time", "cid"))))
        self.assert_holds(False, trust, None, tree)

    def test_the_owner_never_comes(self):
        ties = (("ann", "bob", 0, 9), ("cid", "ann", 0, 9))
        trust = ("ann", ties, (("bob", LOOK, 1, 2),))
        for tree in (giver("bob", ann=giver("ann", cid=MANY)), giver("ann", cid=MANY)):
            for most in (0, 1, None):
                self.assert_holds(False, trust, most, tree)

    def test_none_is_open(self):
        # Ann may give bob what it wishes: nothing bars that case.
        trust = ("ann", (("ann", "bob", 0, 9),), (("bob", LOOK, 1, 2),))
        for bar in (MANY, ("time", "bob"), ("ring", "bob"), ("giver", "bob", ()), ("giver", None, ()),
                    ("giver", "ann", ()), (), None):
            self.assert_holds(False, trust, None, giver("bob", ann=bar))

    def test_no_giver_at_all(self):
        trust = ("ann", (("bob", "ann", 0, 9),), (("bob", LOOK, 1, 2),))
        for most in (None, 0, 1, 7):
            self.assert_holds(True, trust, most, ("giver", "bob", ()))

    TIES = (("ann", "bob", 5, 9), ("dan", "bob", 6, 9), ("cid", "bob", 5, 7), ("cid", "bob", 7, 9))
    TRUST = ("ann", TIES, (("bob", LOOK, 1, 2),))
    BAR = ("time", "bob")

    def test_all_givers_by_names(self):
        self.assert_holds(True, self.TRUST, None, giver("bob", ann=self.BAR, cid=self.BAR, dan=self.BAR))

    def test_a_giver_left_out(self):
        for names in (("ann", "cid"), ("ann", "dan"), ("cid", "dan"), ("ann",), ()):
            tree = giver("bob", **{name: self.BAR for name in names})
            self.assert_holds(False, self.TRUST, None, tree)

    def test_a_giver_too_many(self):
        for names in (("ann", "cid", "dan", "eve"), ("aaa", "ann", "cid", "dan"),
                      ("ann", "bob", "cid", "dan")):
            tree = giver("bob", **{name: self.BAR for name in names})
            self.assert_holds(False, self.TRUST, None, tree)
        twice = (("ann", self.BAR), ("cid", self.BAR), ("cid", self.BAR), ("dan", self.BAR))
        self.assert_holds(False, self.TRUST, None, ("giver", "bob", twice))

    def test_givers_out_of_order(self):
        for names in (("ann", "dan", "cid"), ("cid", "ann", "dan"), ("dan", "cid", "ann")):
            tree = giver("bob", **{name: self.BAR for name in names})
            self.assert_holds(False, self.TRUST, None, tree)

    def test_another_giver_in_its_place(self):
        for names in (("ann", "cid", "eve"), ("aaa", "cid", "dan"), ("ann", "bob", "dan")):
            tree = giver("bob", **{name: self.BAR for name in names})
            self.assert_holds(False, self.TRUST, None, tree)

    def test_each_tree_must_hold(self):
        for name in ("ann", "cid", "dan"):
            trees = {"ann": self.BAR, "cid": self.BAR, "dan": self.BAR, name: ("ring", "bob")}
            self.assert_holds(False, self.TRUST, None, giver("bob", **trees))

    def test_another_actor_than_the_next(self):
        for actor in ("ann", "cid", "dan", "", "bobb", None):
            tree = ("giver", actor, tuple((name, self.BAR) for name in ("ann", "cid", "dan")))
            self.assert_holds(False, self.TRUST, None, tree)


class AnythingTest(TreeTest):
    TRUST = NextTest.TRUST
    RIGHT = giver("bob", ann=("time", "bob"), cid=("time", "bob"), dan=("time", "bob"))

    def test_of_anything(self):
        any_thing = unittest.mock.ANY
        for thing in (None, 0, 1, True, "", "many", "giver", b"many", (), [], {}, set(), object(), 5.5,
                      ["many"], [("many",)], (("many",),), ("Many",), ("many", "bob"), ("many", None),
                      ("ring",), ("time",), ("giver",), ("giver", "bob"), ("giver", "bob", None),
                      ("giver", "bob", []), ("giver", "bob", {}), ("giver", "bob", "ann"),
                      ("giver", "bob", 3), ("giver", "bob", (), ()), ("time", None), ("time", ["bob"]),
                      ("ring", {"bob": 1}), (None, "bob"), (["time"], "bob"), (1, 2, 3), any_thing,
                      (any_thing,), (any_thing, "bob"), ("time", any_thing), ("giver", any_thing, ()),
                      (any_thing, "bob", ()), ("giver", "bob", any_thing), list(self.RIGHT)):
            with self.subTest(thing=thing):
                self.assert_holds(False, self.TRUST, None, thing)
                self.assert_holds(False, self.TRUST, 3, thing)
                # And in the places of trees within a tree that holds.
                for at in range(3):
                    trees = list(self.RIGHT[2])
                    trees[at] = (trees[at][0], thing)
                    self.assert_holds(False, self.TRUST, None, ("giver", "bob", tuple(trees)))
                    trees[at] = thing
                    self.assert_holds(False, self.TRUST, None, ("giver", "bob", tuple(trees)))

    def test_trees_that_are_no_pairs_of_tuples(self):
        self.assert_holds(True, self.TRUST, None, self.RIGHT)
        pairs = self.RIGHT[2]
        for trees in (list(pairs), tuple(list(pair) for pair in pairs), dict(pairs), pairs[0],
                      tuple(pair + (0,) for pair in pairs), tuple(pair[:1] for pair in pairs),
                      tuple((pair[1], pair[0]) for pair in pairs),
                      tuple((unittest.mock.ANY, pair[1]) for pair in pairs),
                      tuple((pair[0], list(pair[1])) for pair in pairs)):
            with self.subTest(trees=trees):
                self.assert_holds(False, self.TRUST, None, ("giver", "bob", trees))

    def test_other_words(self):
        pairs = self.RIGHT[2]
        for word in ("Giver", "give", "givers", "", "many", "ring", "time"):
            self.assert_holds(False, self.TRUST, None, (word, "bob", pairs))
        self.assert_holds(True, self.TRUST, 0, MANY)
        for word in ("Many", "man", "manys", "", "giver", "ring", "time", "bob"):
            self.assert_holds(False, self.TRUST, 0, (word,))
        for word in ("Time", "tim", "", "giver", "ring", "many", "bob"):
            trees = (("ann", (word, "bob")), *pairs[1:])
            self.assert_holds(False, self.TRUST, None, ("giver", "bob", trees))

    def test_very_deep_ones(self):
        thing = ("time", "bob")
        for _ in range(95):
            thing = (thing,)
        self.assert_holds(False, self.TRUST, None, thing)
        trees = thing
        for _ in range(30):
            trees = ("giver", "bob", (("ann", trees),))
        self.assert_holds(False, ("ann", (("ann", "bob", 5, 9),), self.TRUST[2]), None, trees)

    def test_what_is_handed_in_stays(self):
        things = [self.TRUST, self.RIGHT, list(self.RIGHT)]
        before = copy.deepcopy(things)
        for thing in things:
            tree_holds(self.TRUST, None, thing)
        self.assertEqual(things, before)


class LeastTest(TreeTest):
    """Trees of the least plans, and such with one place otherwise, by another way."""

    def told(self, trust):
        """The tree that is told for a trust, and the most for which it holds."""
        told = least_plan(trust)
        return (told[1], None) if told[0] == "none" else (told[2], len(told[1]) - 1)

    def places(self, tree):
        """All trees within a tree, itself too, each with the way to it."""
        yield (), tree
        if tree[0] == "giver":
            for at, (_, told) in enumerate(tree[2]):
                for way, within in self.places(told):
                    yield (at, *way), within

    def put(self, tree, way, other):
        """A tree with another one at a place."""
        if not way:
            return other
        at, *rest = way
        name, told = tree[2][at]
        return (*tree[:2], (*tree[2][:at], (name, self.put(told, rest, other)), *tree[2][at + 1:]))

    def others(self, tree, names):
        """Trees that might stand where this one does."""
        yield MANY
        for name in names:
            yield ("ring", name)
            yield ("time", name)
        if tree[0] == "giver":
            _, actor, trees = tree
            yield ("giver", "zoe", trees)
            yield ("giver", actor, trees[1:] if trees else (("a", MANY),))
            yield ("giver", actor, trees + (("z", MANY),))
            yield ("giver", actor, trees[::-1] if len(trees) > 1 else (("b", MANY),))
        else:
            yield ("giver", names[0], ())

    def test_by_chance(self):
        counts = {True: 0, False: 0}
        for seed in range(250):
            chance = random.Random(seed)
            trust = trust_model.chance_trust(chance)
            tree, most = self.told(trust)
            mosts = (0, 1, 2, 3, None) if most is None else (0, most - 1, most, most + 1, None)
            for other in mosts:
                right = trust_model.is_tree(trust, other, {}, tree)
                self.assert_holds(right, trust, other, tree)
            places = list(self.places(tree))
            for way, within in chance.sample(places, min(len(places), 8)):
                for other in self.others(within, trust_model.names_of(trust)):
                    changed = self.put(tree, way, other)
                    right = trust_model.is_tree(trust, most, {}, changed)
                    self.assert_holds(right, trust, most, changed)
                    counts[right] += 1
        self.assertGreater(counts[True], 300)
        self.assertGreater(counts[False], 3000)

    def test_no_tree_holds_for_as_many_as_the_least_plan_has(self):
        for seed in range(250):
            trust = trust_model.chance_trust(random.Random(seed), most_names=3)
            many = trust_model.least_many(trust)
            tree, most = self.told(trust)
            if many is not None:
                self.assertEqual(most, many - 1)
                self.assert_holds(True, trust, most, tree)
                for way, within in self.places(tree):
                    for other in self.others(within, trust_model.names_of(trust)):
                        for higher in (many, many + 1, None):
                            self.assert_holds(False, trust, higher, self.put(tree, way, other))


if __name__ == "__main__":
    unittest.main()
