"""Points [4] and [7] to [10], by chance: a ledger against the document's words.

The model keeps the leaves and takings as they came, and reckons whatever is
asked straight from the document's sentences, however long that may take.
"""

import random
import unittest

from leavechain.errors import HallError, NoGift, NoLeave, NoMoment, NoRoom, NotLet
from leavechain.leaves import is_leave, lies_within
from leavechain.ledger import Ledger

ROOMS = {"den": ("ann", 5), "attic": ("zoe", 7)}
ACTORS = ("ann", "zoe", "bob", "cid", "dan")
ALL_DEEDS = (("look",), ("set",), ("look", "set"))


class Model:
    def __init__(self):
        self.now = 0
        self.given = []
        self.back = {}

    def stands(self, number, moment):
        _, _, _, _, _, since, until, _, under = self.given[number]
        if not since <= moment < until:
            return False
        if number in self.back and self.back[number] <= moment:
            return False
        return under is None or self.stands(under, moment)

    def above(self, number):
        under = self.given[number][8]
        return () if under is None else self.above(under) + (under,)

    def lost(self, number):
        for link in (*self.above(number), number):
            if link in self.back or self.given[link][6] <= self.now:
                return True
        return False

    def held(self, actor, deed, room):
        return [
            leave[0] for leave in self.given
            if leave[4] == actor and deed in leave[2] and leave[1] == room
        ]

    def chain(self, actor, deed, room):
        if ROOMS[room][0] == actor:
            return ()
        standing = [n for n in self.held(actor, deed, room) if self.stands(n, self.now)]
        return self.above(min(standing)) + (min(standing),) if standing else None

    def alone(self, number):
        if number in self.back:
            return "taken"
        if self.given[number][5] > self.now:
            return "early"
        return "over" if self.given[number][6] <= self.now else None

    def why_not(self, actor, deed, room):
        if self.chain(actor, deed, room) is not None:
            return None
        told = []
        for number in self.held(actor, deed, room):
            links = [link for link in (*self.above(number), number) if self.alone(link)]
            told.append((number, links[0], self.alone(links[0])))
        return tuple(told)

    def give(self, giver, deeds, room, holder, since, until, passes):
        if room not in ROOMS:
            return NoRoom
        leave = (len(self.given), room, deeds, giver, holder, since, until, passes, None)
        if not is_leave(leave) or until <= self.now:
            return NoGift
        if ROOMS[room][0] != giver:
            unders = [
                other[0] for other in self.given
                if lies_within(leave, other) and not self.lost(other[0])
            ]
            if not unders:
                return NotLet
            leave = leave[:8] + (min(unders),)
        self.given.append(leave)
        return leave[0]

    def take(self, actor, number):
        if not 0 <= number < len(self.given) or number in self.back:
            return NoLeave
        if self.given[number][6] <= self.now:
            return NoLeave
        holders = [self.given[link][4] for link in self.above(number)]
        if actor not in (self.given[number][3], ROOMS[self.given[number][1]][0], *holders):
            return NotLet
        self.back[number] = self.now
        return None

    def move_on(self, moment):
        if moment < self.now:
            return NoMoment
        self.now = moment
        return None


def outcome(method, *told, **named):
    """What a call tells, or the class with which it is refused."""
    try:
        return method(*told, **named)
    except HallError as refusal:
        return type(refusal)


class ModelTest(unittest.TestCase):
    def assert_alike(self, ledger, model):
        self.assertEqual(ledger.moment(), model.now)
        self.assertEqual(ledger.leaves(), model.given)
        self.assertEqual(ledger.taken(), model.back)
        for number in range(len(model.given)):
            self.assertIs(ledger.stands(number), model.stands(number, model.now))
        for room in ROOMS:
            for actor in ACTORS:
                for deed in ("look", "set"):
                    asked = (actor, deed, room)
                    self.assertEqual(ledger.chain(*asked), model.chain(*asked))
                    self.assertEqual(ledger.why_not(*asked), model.why_not(*asked))

    def giving(self, chance, model):
        """The arguments of a giving, often one that lies within some leave."""
        room = chance.choice(("den", "den", "den", "attic", "attic", "cellar"))
        giver, holder = chance.choices(ACTORS, k=2)
        since = model.now + chance.randint(-3, 4)
        until = since + chance.randint(0, 12)
        deeds, passes = chance.choice(ALL_DEEDS), chance.randint(0, 6)
        if model.given and chance.random() < 0.7:
            other = chance.choice(model.given)
            room, giver = other[1], other[4]
            since = other[5] + chance.choice((0, 0, 1, 2, -1))
            until = other[6] - chance.choice((0, 0, 1, 2, -1))
            deeds = chance.choice((other[2], other[2], deeds))
            passes = other[7] - chance.choice((0, 1, 1, 1, 2))
        return giver, deeds, room, holder, since, until, passes

    def test_ledgers_by_chance(self):
        counts = {}
        for seed in range(150):
            chance = random.Random(seed)
            ledger, model = Ledger(ROOMS), Model()
            for _ in range(40):
                kind = chance.choice(("give", "give", "give", "take", "move"))
                if kind == "give":
                    *told, passes = self.giving(chance, model)
                    expected = model.give(*told, passes)
                    got = outcome(ledger.give, *told, passes=passes)
                elif kind == "take":
                    number = chance.randint(-1, len(model.given))
                    told = (chance.choice(ACTORS), number)
                    expected, got = model.take(*told), outcome(ledger.take, *told)
                else:
                    moment = model.now + chance.choice((-1, 0, 1, 1, 1, 2))
                    moment = max(moment, 0)
                    expected, got = model.move_on(moment), outcome(ledger.move_on, moment)
                self.assertEqual(got, expected)
                self.assert_alike(ledger, model)
                told = expected if isinstance(expected, type) else "done"
                counts[kind, told] = counts.get((kind, told), 0) + 1
        # Each outcome has come about often enough to mean something.
        for kind, told in (
            ("give", "done"), ("give", NoRoom), ("give", NoGift), ("give", NotLet),
            ("take", "done"), ("take", NoLeave), ("take", NotLet),
            ("move", "done"), ("move", NoMoment),
        ):
            self.assertGreater(counts[kind, told], 50)


if __name__ == "__main__":
    unittest.main()
