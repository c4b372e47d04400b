"""Points [17] and [18]: all weavings of a hall."""

import copy
import itertools
import unittest

from leavechain.errors import HallError, NoRoom, TooMany
from leavechain.hall import Hall
from leavechain.programs import most_steps
from leavechain.weavings import spans, weavings
from test_hall import gone, steps

ROOMS = {"den": ("ann", 5)}


def made(**programs):
    """Programs by actors, from their rows."""
    return {actor: steps(*rows) for actor, rows in programs.items()}


def rests(**many):
    """Programs that have so many steps and do nothing."""
    return {actor: steps(*["rest"] * times) for actor, times in many.items()}


def all_ways(programs):
    """All orders of the actors' longest ways, by the order of lists."""
    turns = [actor for actor in sorted(programs) for _ in range(most_steps(programs[actor]))]
    return sorted(set(itertools.permutations(turns)))


def end_of(hall, programs):
    """The end to which a hall has come."""
    worths = tuple(sorted(hall.worths().items()))
    known = [(actor, tuple(sorted(hall.locals_of(actor).items()))) for actor in sorted(programs)]
    return (worths, tuple(known))


def reckoned(rooms, programs):
    """The weavings told by halls that are gone anew for each order of the steps."""
    found = {}
    for way in all_ways(programs):
        hall, weaving = Hall(rooms, programs), []
        for actor in way:
            if not hall.is_done(actor):
                hall.go(actor)
                weaving.append(actor)
        # Ways that are shorter than the longest come about by several orders.
        found[tuple(weaving)] = hall
    ends, missing = {}, None
    for weaving in sorted(found):
        hall = found[weaving]
        end = end_of(hall, programs)
        many, first = ends.get(end, (0, list(weaving)))
        ends[end] = (many + 1, first)
        if missing is None and any(row[0] == "miss" for row in hall.log()):
            missing = list(weaving)
    return len(found), ends, missing


RACE = made(
    ann=["give look+set on den to bob since 0 until 99 passes 0 as n", "look den as x",
         "set den to x + 1"],
    bob=["look den as x", "set den to x + 1"],
)


class WeavingsTest(unittest.TestCase):
    def assert_told(self, rooms, programs):
        """That the weavings are told as gone by hand."""
        told = weavings(rooms, programs)
        self.assertEqual(told, reckoned(rooms, programs))
        return told

    def test_of_one_actor(self):
        programs = made(ann=["look den as x", "set den to x + 1", "rest"])
        many, ends, missing = weavings(ROOMS, programs)
        self.assertEqual(many, 1)
        self.assertEqual(ends, {
            ((("den", 6),), (("ann", (("missed", 0), ("x", 5))),)): (1, ["ann"] * 3),
        })
        self.assertIsNone(missing)

    def test_of_one_actor_that_misses(self):
        many, ends, missing = weavings(ROOMS, made(bob=["look den as x"]))
        self.assertEqual((many, missing), (1, ["bob"]))
        self.assertEqual(ends, {
            ((("den", 5),), (("bob", (("missed", 1), ("x", 0))),)): (1, ["bob"]),
        })

    def test_of_forty_steps(self):
        many, ends, _ = weavings(ROOMS, rests(ann=40))
        self.assertEqual(many, 1)
        self.assertEqual(list(ends.values()), [(1, ["ann"] * 40)])

    def test_of_programs_that_do_nothing(self):
        for many, programs in (
            (2, rests(a=1, b=1)), (6, rests(a=2, b=2)), (6, rests(a=1, b=1, c=1)),
            (10, rests(a=3, b=2)), (30, rests(a=1, b=2, c=2)), (120, rests(a=1, b=1, c=1, d=1, e=1)),
        ):
            first = [actor for actor in sorted(programs) for _ in range(len(programs[actor]))]
            known = tuple((actor, (("missed", 0),)) for actor in sorted(programs))
            ends = {((("den", 5),), known): (many, first)}
            self.assertEqual(weavings(ROOMS, programs), (many, ends, None))

    def test_of_two_programs_alike(self):
        program = steps("let x be now")
        many, ends, missing = weavings(ROOMS, {"bob": program, "ann": program})
        self.assertEqual((many, missing), (2, None))
        worths = (("den", 5),)
        self.assertEqual(ends, {
            (worths, (("ann", (("missed", 0), ("x", 0))), ("bob", (("missed", 0), ("x", 1))))):
                (1, ["ann", "bob"]),
            (worths, (("ann", (("missed", 0), ("x", 1))), ("bob", (("missed", 0), ("x", 0))))):
                (1, ["bob", "ann"]),
        })

    def test_ends_to_which_several_lead(self):
        rooms = {"den": ("ann", 0), "attic": ("bob", 0)}
        programs = made(ann=["set den to 1", "rest"], bob=["let y be now", "set attic to y < 2"])
        many, ends, missing = weavings(rooms, programs)
        self.assertEqual((many, missing), (6, None))
        # Bob's first step is done at moment 0 in three weavings, at 1 in two, at 2 in one.
        ann = ("ann", (("missed", 0),))
        expected = {}
        for moment, alike, first in ((0, 3, "bab"), (1, 2, "abab"), (2, 1, "aabb")):
            worths = (("attic", int(moment < 2)), ("den", 1))
            expected[(worths, (ann, ("bob", (("missed", 0), ("y", moment)))))] = alike
        self.assertEqual({end: told[0] for end, told in ends.items()}, expected)
        self.assertEqual(sorted(told[1] for told in ends.values()), [
            ["ann", "ann", "bob", "bob"], ["ann", "bob", "ann", "bob"],
            ["bob", "ann", "ann", "bob"],
        ])

    def test_a_race(self):
        many, ends, missing = self.assert_told(ROOMS, RACE)
        self.assertEqual(many, 10)
        # By hand: behind the giving the four others can be woven in six ways; in two of
        # them none looks between the other's look and set.
        worths = {}
        for (told, _), (alike, _) in ends.items():
            worths[told[0][1]] = worths.get(told[0][1], 0) + alike
        self.assertEqual(worths[7], 2)
        self.assertEqual(missing, ["bob", "ann", "ann", "ann", "bob"])

    def test_missing_is_the_first_by_the_order_of_lists(self):
        rooms = {"den": ("ann", 5)}
        programs = made(
            ann=["give look on den to bob since 0 until 3 passes 0 as n"],
            bob=["look den as x"], cid=["rest", "rest"],
        )
        many, ends, missing = self.assert_told(rooms, programs)
        self.assertEqual(many, 12)
        self.assertEqual(missing, ["ann", "cid", "cid", "bob"])

    def test_missing_is_none_where_nothing_is_missed(self):
        programs = made(
            ann=["give look on den to bob since 0 until 9 passes 0 as n", "set den to 7"],
            bob=["rest", "rest"],
        )
        self.assertIsNone(self.assert_told(ROOMS, programs)[2])

    def test_misses_of_each_kind(self):
        for row in ("look den as x", "set den to 1", "take 0", "look cellar as x",
                    "give look on den to cid since 0 until 9 passes 0 as x"):
            programs = made(ann=["rest"], bob=[row])
            self.assertEqual(weavings(ROOMS, programs)[2], ["ann", "bob"])

    def test_a_miss_that_is_forgotten_counts(self):
        programs = made(ann=["take 0", "set den to 1"])
        many, ends, missing = weavings(ROOMS, programs)
        self.assertEqual(missing, ["ann", "ann"])
        self.assertEqual(list(ends)[0][1], (("ann", (("missed", 0),)),))

    def test_names_are_told_by_their_order(self):
        rooms = {"den": ("zoe", 1), "attic": ("zoe", 2), "cellar": ("zoe", 3)}
        programs = made(zoe=["let z be 1", "let a be 2", "look den as n"], abe=["let m be 3"])
        _, ends, _ = weavings(rooms, programs)
        self.assertEqual(list(ends), [(
            (("attic", 2), ("cellar", 3), ("den", 1)),
            (("abe", (("m", 3), ("missed", 0))),
             ("zoe", (("a", 2), ("missed", 0), ("n", 1), ("z", 1)))),
        )])

    def test_the_first_goes_by_names_not_by_the_dict(self):
        programs = made(zoe=["rest"], abe=["rest"])
        self.assertEqual(list(programs), ["zoe", "abe"])
        _, ends, _ = weavings(ROOMS, programs)
        self.assertEqual(list(ends.values()), [(2, ["abe", "zoe"])])

    def test_whens_with_ways_of_unlike_lengths(self):
        programs = made(
            ann=["look den as x", "when now < 2", "rest", "rest", "end"], bob=["set den to 9"],
        )
        # The when is done at 1, and ann has four steps, unless bob's is ahead of it.
        told = self.assert_told({"den": ("bob", 5)}, programs)
        end = ((("den", 9),), (("ann", (("missed", 1), ("x", 0))), ("bob", (("missed", 0),))))
        first = ["ann", "ann", "ann", "ann", "bob"]
        self.assertEqual(told, (3 + 2, {end: (5, first)}, first))

    def test_whens_that_end_as_the_other_goes_on(self):
        programs = made(
            ann=["look den as x", "when x = 5", "rest", "rest", "end"], bob=["rest", "rest"],
        )
        rooms = {"den": ("ann", 5)}
        # Four and two steps: fifteen weavings; two and two where the worth is another.
        self.assertEqual(self.assert_told(rooms, programs)[0], 15)
        self.assertEqual(self.assert_told({"den": ("ann", 6)}, programs)[0], 6)

    def test_whens_by_another_way(self):
        programs = made(
            ann=["when now", "let x be 1", "else", "rest", "let x be 2", "end", "set den to now"],
            bob=["look den as y", "when y = 5", "let z be now", "end"],
            cid=["rest"],
        )
        self.assert_told(ROOMS, programs)

    def test_leaves_by_another_way(self):
        programs = made(
            ann=["give look+set on den to bob since 1 until 5 passes 1 as n", "take n"],
            bob=["give look on den to cid since 1 until 4 passes 0 as n", "set den to n"],
            cid=["look den as x", "look den as y"],
        )
        many, ends, missing = self.assert_told(ROOMS, programs)
        self.assertEqual(many, 90)
        self.assertGreater(len(ends), 5)
        self.assertIsNotNone(missing)


class ManyTest(unittest.TestCase):
    def test_just_within(self):
        # (18 + 2 + 1)! / (18! * 2! * 1!), the most of not above four thousand.
        many, ends, _ = weavings(ROOMS, rests(a=1, b=2, c=18))
        self.assertEqual(many, 3990)
        self.assertEqual([told[0] for told in ends.values()], [3990])
        self.assertEqual(spans(ROOMS, rests(a=1, b=2, c=18), "den"), {})
        self.assertEqual(weavings(ROOMS, rests(a=1, b=4, c=7))[0], 3960)
        self.assertEqual(weavings(ROOMS, rests(a=1, b=1, c=1, d=1, e=5))[0], 3024)

    def test_just_above(self):
        # (10 + 3 + 1)! / (10! * 3! * 1!) is 4004.
        for programs in (rests(a=1, b=3, c=10), rests(a=3, b=27), rests(a=1, b=1, c=1, d=14),
                         rests(a=40, b=40, c=40, d=40, e=40)):
            for call, told in ((weavings, ()), (spans, ("den",))):
                with self.assertRaises(HallError) as caught:
                    call(ROOMS, programs, *told)
                self.assertIs(type(caught.exception), TooMany)

    def test_the_longest_ways_count(self):
        short = made(a=["when 0", "rest", "rest", "end", "rest"], b=["rest"] * 10, c=["rest"])
        self.assertEqual(most_steps(short["a"]), 4)
        self.assertRaises(TooMany, weavings, ROOMS, short)
        short = made(a=["when 0", "rest", "end", "rest"], b=["rest"] * 9, c=["rest"])
        # 13! / (9! * 3! * 1!) is 2860; of the ways that are there, 12! / (9! * 2! * 1!).
        self.assertEqual(weavings(ROOMS, short)[0], 660)

    def test_branches_do_not_add_up(self):
        both = made(a=["when now", "rest", "else", "rest", "end"] * 3, b=["rest"] * 7)
        self.assertEqual(most_steps(both["a"]), 6)
        self.assertEqual(weavings(ROOMS, both)[0], 1716)


class OwnTest(unittest.TestCase):
    def test_what_is_handed_in_stays(self):
        rooms, programs = dict(ROOMS), copy.deepcopy(RACE)
        weavings(rooms=rooms, programs=programs)
        spans(rooms=rooms, programs=programs, room="den")
        self.assertEqual((rooms, programs), (ROOMS, RACE))

    def test_what_is_told_is_new(self):
        told = weavings(ROOMS, RACE)
        before = copy.deepcopy(told)
        again = weavings(ROOMS, RACE)
        again[1].clear()
        again[2].clear()
        for _, first in weavings(ROOMS, RACE)[1].values():
            first.clear()
        spans(ROOMS, RACE, "den").clear()
        self.assertEqual(told, before)
        self.assertEqual(weavings(ROOMS, RACE), before)

    def test_the_first_with_a_miss_is_a_list_of_its_own(self):
        _, ends, missing = weavings(ROOMS, made(bob=["look den as x"]))
        missing.clear()
        self.assertEqual(list(ends.values()), [(1, ["bob"])])

    def test_kinds(self):
        many, ends, missing = told = weavings(ROOMS, RACE)
        self.assertIs(type(told), tuple)
        self.assertIs(type(many), int)
        self.assertIs(type(ends), dict)
        self.assertIs(type(missing), list)
        for end, (alike, first) in ends.items():
            self.assertIs(type(end), tuple)
            self.assertIs(type(alike), int)
            self.assertIs(type(first), list)


class SpansTest(unittest.TestCase):
    def test_at_one_moment(self):
        self.assertEqual(spans(ROOMS, made(ann=["rest", "look den as x"]), "den"),
                         {("ann", "look"): (1, 1)})

    def test_at_several(self):
        programs = made(ann=["look den as x", "rest", "look den as x", "set den to 4"])
        self.assertEqual(spans(ROOMS, programs, "den"),
                         {("ann", "look"): (0, 2), ("ann", "set"): (3, 3)})

    def test_over_all_weavings(self):
        programs = made(ann=["look den as x", "set den to 4"], bob=["rest", "rest", "rest"])
        self.assertEqual(spans(ROOMS, programs, "den"),
                         {("ann", "look"): (0, 3), ("ann", "set"): (1, 4)})

    def test_what_is_never_done_is_not_told(self):
        programs = made(ann=["rest"], bob=["look den as x", "set den to 4"])
        self.assertEqual(spans(ROOMS, programs, "den"), {})

    def test_what_is_missed_does_not_count(self):
        programs = made(
            ann=["give look on den to bob since 2 until 4 passes 0 as n"],
            bob=["look den as x"] * 6,
        )
        # Given at moment 0 to 6, looked at from 2 on while it stands.
        self.assertEqual(spans(ROOMS, programs, "den"), {("bob", "look"): (2, 3)})

    def test_of_each_room_by_itself(self):
        rooms = {"den": ("ann", 1), "attic": ("bob", 2), "cellar": ("ann", 3)}
        programs = made(ann=["look den as x", "look attic as x", "set den to 1"],
                        bob=["set attic to 2"])
        self.assertEqual(spans(rooms, programs, "den"),
                         {("ann", "look"): (0, 1), ("ann", "set"): (2, 3)})
        self.assertEqual(spans(rooms, programs, "attic"), {("bob", "set"): (0, 3)})
        self.assertEqual(spans(rooms, programs, "cellar"), {})

    def test_givings_and_takings_are_no_deeds(self):
        programs = made(ann=["give look on den to bob since 0 until 9 passes 0 as n", "take n"])
        self.assertEqual(spans(ROOMS, programs, "den"), {})

    def test_steps_to_which_no_way_leads(self):
        for worth, last in (("0", 1), ("3", 3)):
            programs = made(ann=[f"set den to {worth}", "look den as x", "when x", "look den as y",
                                 "end"])
            self.assertEqual(spans(ROOMS, programs, "den"),
                             {("ann", "set"): (0, 0), ("ann", "look"): (1, last)})

    def test_by_another_way(self):
        rooms = {"den": ("ann", 5), "attic": ("bob", 1)}
        programs = made(
            ann=["give look+set on den to bob since 1 until 6 passes 1 as n", "look attic as x",
                 "take n"],
            bob=["give look on den to cid since 1 until 4 passes 0 as n", "set den to n",
                 "give set on attic to cid since 0 until 5 passes 0 as n"],
            cid=["look den as x", "set attic to x"],
        )
        for room in rooms:
            found = {}
            for way in all_ways(programs):
                for row in gone(rooms, programs, way).log():
                    if row[0] in ("look", "set") and row[3] == room:
                        found.setdefault((row[2], row[0]), []).append(row[1])
            expected = {done: (min(told), max(told)) for done, told in found.items()}
            self.assertEqual(spans(rooms, programs, room), expected)
            self.assertEqual(len(expected), 2 if room == "den" else 1)

    def test_no_room(self):
        for room in ("attic", "", "ann"):
            with self.assertRaises(HallError) as caught:
                spans(ROOMS, RACE, room)
            self.assertIs(type(caught.exception), NoRoom)

    def test_no_room_goes_ahead_of_too_many(self):
        programs = rests(a=20, b=20)
        self.assertRaises(NoRoom, spans, ROOMS, programs, "attic")
        self.assertRaises(TooMany, spans, ROOMS, programs, "den")


if __name__ == "__main__":
    unittest.main()
