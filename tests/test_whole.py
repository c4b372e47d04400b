"""Point [4], the promise of the whole, over all files."""

import itertools
import random
import unittest

import trust_model
from hall_model import HallModel, chance_hall, right_to, stands
from leavechain.errors import HallError
from leavechain.hall import Hall
from leavechain.ledger import Ledger
from leavechain.logs import bare, log_holds, told_log
from leavechain.plans import is_plan, least_plan, plan_leaves, tree_holds
from leavechain.programs import most_steps, read_program, show_program
from leavechain.weavings import spans, weavings
from test_weavings import end_of


def every_weaving(rooms, programs):
    """All weavings of a hall, each with the hall gone by it, found step by step."""
    found, left = [], [()]
    while left:
        way = left.pop()
        hall = Hall(rooms, programs)
        for actor in way:
            hall.go(actor)
        undone = [actor for actor in programs if not hall.is_done(actor)]
        left.extend((*way, actor) for actor in undone)
        if not undone:
            found.append((list(way), hall))
    return sorted(found, key=lambda told: told[0])


def small_halls(many, actors, most, steps):
    """Halls by chance that can be woven in few ways."""
    seed = found = 0
    while found < many:
        chance = random.Random(seed)
        seed += 1
        rooms, programs = chance_hall(chance, actors, most)
        if sum(most_steps(program) for program in programs.values()) <= steps:
            found += 1
            yield rooms, programs


class WeavingsTest(unittest.TestCase):
    def assert_rights(self, rooms, hall):
        """That each look and set was done just where it was right, reckoned from the rows."""
        leaves, back, uses = [], {}, 0
        worths = {room: held[1] for room, held in rooms.items()}
        for row in hall.log():
            if row[0] == "gave":
                leaves.append(row[3])
            elif row[0] == "took":
                back[row[3]] = row[1]
            elif row[0] == "over":
                self.assertEqual(leaves[row[2]][6], row[1])
                self.assertNotIn(row[2], back)
            else:
                missed = row[0] == "miss"
                deed, room = row[3][:2] if missed else (row[0], row[3])
                if deed in ("look", "set") and room in rooms:
                    chain = right_to(rooms[room][0], leaves, back, row[2], deed, room, row[1])
                    self.assertEqual(chain is None, missed)
                    uses += 1
                    if not missed:
                        self.assertEqual(row[5], chain)
                        worths[room] = worths[room] if deed == "look" else row[4]
                        self.assertEqual(row[4], worths[room])
        self.assertEqual(hall.worths(), worths)
        self.assertEqual(hall.leaves(), leaves)
        # Each leave comes to its until at just that moment, but for those taken back.
        overs = [row for row in hall.log() if row[0] == "over"]
        self.assertEqual(sorted(overs), sorted(
            ("over", leave[6], leave[0]) for leave in leaves
            if leave[6] <= hall.moment() and leave[0] not in back
        ))
        return uses

    def test_every_weaving_of_small_halls(self):
        ways = uses = 0
        for rooms, programs in small_halls(40, 2, 5, 11):
            found = every_weaving(rooms, programs)
            ends, missing, done = {}, None, {}
            for way, hall in found:
                uses += self.assert_rights(rooms, hall)
                log, moment = hall.log(), hall.moment()
                self.assertEqual(told_log(rooms, bare(log), moment), log)
                self.assertTrue(log_holds(rooms, log, moment))
                many, first = ends.get(end_of(hall, programs), (0, way))
                ends[end_of(hall, programs)] = (many + 1, first)
                if missing is None and any(row[0] == "miss" for row in log):
                    missing = way
                for row in log:
                    if row[0] in ("look", "set"):
                        done.setdefault(row[3], {}).setdefault((row[2], row[0]), []).append(row[1])
            self.assertEqual(weavings(rooms, programs), (len(found), ends, missing))
            for room in rooms:
                told = {deed: (min(at), max(at)) for deed, at in done.get(room, {}).items()}
                self.assertEqual(spans(rooms, programs, room), told)
            ways += len(found)
        self.assertGreater(ways, 1500)
        self.assertGreater(uses, 1500)

    def test_every_weaving_of_three(self):
        for rooms, programs in small_halls(8, 3, 2, 8):
            found = every_weaving(rooms, programs)
            for _, hall in found:
                self.assert_rights(rooms, hall)
            many, ends, _ = weavings(rooms, programs)
            self.assertEqual(many, len(found))
            self.assertEqual(sum(told[0] for told in ends.values()), many)
            for end, (_, first) in ends.items():
                self.assertEqual(first, min(way for way, hall in found
                                            if end_of(hall, programs) == end))

    def test_programs_do_the_same_when_written_and_read_again(self):
        for rooms, programs in small_halls(10, 2, 4, 9):
            again = {actor: read_program(show_program(steps)) for actor, steps in programs.items()}
            self.assertEqual(weavings(rooms, again), weavings(rooms, programs))

    def test_a_leave_stands_at_just_its_moments_in_every_weaving(self):
        rooms = {"den": ("ann", 5)}
        for back in (False, True):
            programs = {
                "ann": read_program(
                    "give look on den to bob since 1 until 5 passes 1 as n\n" + ("take n\n" if back else ""),
                ),
                "bob": read_program("give look on den to cid since 2 until 4 passes 0 as n\nlook den as x\n"),
                "cid": read_program("look den as x\nlook den as y\n"),
            }
            for _, hall in every_weaving(rooms, programs):
                leaves, taken = hall.leaves(), {}
                for row in hall.log():
                    if row[0] == "took":
                        taken[row[3]] = row[1]
                    deed = row[0] if row[0] != "miss" else row[3][0]
                    if deed == "look":
                        held = [leave[0] for leave in leaves if leave[4] == row[2]]
                        given = {told[3][0]: told[1] for told in hall.log() if told[0] == "gave"}
                        standing = [at for at in held if given[at] < row[1]
                                    and stands(leaves, taken, at, row[1])]
                        self.assertEqual(row[0] == "look", len(standing) > 0)

    def test_halls_are_ledgers_with_programs(self):
        """A hall's leaves, given and taken by hand, are let and not let as in the hall."""
        for seed in range(60):
            chance = random.Random(seed)
            rooms, programs = chance_hall(chance, 3, 8)
            hall, model, ledger = Hall(rooms, programs), HallModel(rooms, programs), Ledger(rooms)
            while not all(hall.is_done(actor) for actor in programs):
                actor = chance.choice([name for name in programs if not hall.is_done(name)])
                hall.go(actor)
                model.go(actor)
                for row in hall.log():
                    if row[1] != hall.moment() - 1:
                        continue
                    if row[0] == "gave":
                        _, room, deeds, giver, holder, since, until, passes, _ = row[3]
                        number = ledger.give(giver, deeds, room, holder, since, until, passes=passes)
                        self.assertEqual(ledger.leaves()[number], row[3])
                    elif row[0] == "took":
                        ledger.take(row[2], row[3])
                ledger.move_on(hall.moment())
                self.assertEqual(ledger.leaves(), hall.leaves())
                self.assertEqual(ledger.taken(), model.back)
                for name, deed, room in itertools.product(programs, ("look", "set"), rooms):
                    self.assertEqual(ledger.chain(name, deed, room), right_to(
                        rooms[room][0], model.given, model.back, name, deed, room, model.now,
                    ))


class PlansTest(unittest.TestCase):
    def let_wishes(self, trust, leaves):
        """The wishes that are let at each of their moments, when these leaves are given."""
        ledger = Ledger({"den": (trust[0], 0)})
        for _, room, deeds, giver, holder, since, until, passes, _ in leaves:
            try:
                ledger.give(giver, deeds, room, holder, since, until, passes=passes)
            except HallError:
                # What stood under a leave that was left out can not be given.
                pass
        let = {wish: True for wish in trust[2]}
        for moment in range(max(wish[3] for wish in trust[2]) + 1):
            ledger.move_on(moment)
            for wish in trust[2]:
                actor, deeds, since, until = wish
                if since <= moment < until:
                    for deed in deeds:
                        let[wish] &= ledger.chain(actor, deed, "den") is not None
        return [wish for wish in trust[2] if let[wish]]

    def test_plans_by_chance(self):
        plans = 0
        for seed in range(500):
            trust = trust_model.chance_trust(random.Random(seed), most_names=5)
            told = least_plan(trust)
            self.assertEqual(told[0] == "plan", trust_model.least_many(trust) is not None)
            if told[0] == "none":
                self.assertTrue(tree_holds(trust, None, told[1]))
                continue
            plans += 1
            _, plan, tree = told
            leaves = plan_leaves(trust, plan, "den")
            self.assertTrue(is_plan(trust, plan))
            self.assertTrue(tree_holds(trust, len(plan) - 1, tree))
            self.assertEqual(self.let_wishes(trust, leaves), list(trust[2]))
            for at in range(len(leaves)):
                left = leaves[:at] + leaves[at + 1:]
                self.assertLess(len(self.let_wishes(trust, left)), len(trust[2]))
                rest = tuple(row for row in plan if row[1] != leaves[at][4])
                self.assertFalse(is_plan(trust, rest))
        self.assertGreater(plans, 150)

    def test_a_plan_gone_through_in_a_hall(self):
        """The wishers look and set just at the moments that they wish, by the plan's leaves."""
        ties = (("ann", "dan", 0, 40), ("dan", "bob", 0, 40), ("dan", "cid", 10, 30))
        trust = ("ann", ties, (("bob", ("look",), 8, 12), ("cid", ("look", "set"), 11, 14)))
        leaves = plan_leaves(trust, least_plan(trust)[1], "den")
        self.assertEqual([leave[4] for leave in leaves], ["dan", "bob", "cid"])
        programs = {}
        for actor in ("ann", "dan"):
            rows = [f"give {'+'.join(leave[2])} on den to {leave[4]} since {leave[5]} until {leave[6]} "
                    f"passes {leave[7]} as n\n" for leave in leaves if leave[3] == actor]
            programs[actor] = read_program("".join(rows))
        programs["bob"] = read_program("look den as x\n" * 6)
        programs["cid"] = read_program("set den to now\n" * 5)
        hall = Hall({"den": ("ann", 0)}, programs)
        for actor in ("ann", "dan", "dan"):
            hall.go(actor)
        self.assertEqual(hall.leaves(), leaves)
        hall.wait(moments=4)
        for actor in ("bob", "bob", "bob", "cid", "bob", "cid", "cid", "cid"):
            hall.go(actor)
        told = [(row[0], row[1]) for row in hall.log() if row[0] in ("look", "set", "miss")]
        self.assertEqual(told, [
            ("miss", 7), ("look", 8), ("look", 9), ("miss", 10), ("look", 11),
            ("set", 12), ("set", 13), ("miss", 14),
        ])
        self.assertTrue(log_holds({"den": ("ann", 0)}, hall.log(), hall.moment()))


if __name__ == "__main__":
    unittest.main()
