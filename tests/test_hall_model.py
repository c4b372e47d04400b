"""Points [13] to [16], by chance: halls and their logs against the document's words."""

import random
import unittest

from hall_model import NAMES, HallModel, chance_hall, chance_log
from leavechain.errors import Done, NoLog
from leavechain.hall import Hall
from leavechain.logs import bare, log_holds, told_log

# All kinds of rows that a log may have.
KINDS = (
    ("over",), ("look", "owner"), ("look", "leaves"), ("set", "owner"), ("set", "leaves"),
    ("gave", "owner"), ("gave", "leaves"), ("took", "giver"), ("took", "owner"), ("took", "above"),
    ("miss", "look", "why"), ("miss", "look", "()"), ("miss", "set", "why"),
    ("miss", "set", "()"), ("miss", "give", "()"), ("miss", "take", "()"),
)


class ModelTest(unittest.TestCase):
    def assert_alike(self, hall, model):
        self.assertEqual(hall.moment(), model.now)
        self.assertEqual(hall.worths(), model.worths)
        self.assertEqual(hall.leaves(), model.given)
        self.assertEqual(repr(hall.log()), repr(model.rows))
        for actor in model.programs:
            self.assertEqual(hall.locals_of(actor), model.known[actor])
            self.assertIs(hall.is_done(actor), model.place[actor] == len(model.programs[actor]))

    def gone(self, chance, rooms, programs):
        """A hall gone to its end together with the model, alike at each moment."""
        hall, model = Hall(rooms, programs), HallModel(rooms, programs)
        while not all(hall.is_done(actor) for actor in programs):
            actor = chance.choice(list(programs))
            if chance.random() < 0.1:
                moments = chance.randint(1, 3)
                hall.wait(moments=moments)
                for _ in range(moments):
                    model.pass_moment()
            elif hall.is_done(actor):
                self.assertRaises(Done, hall.go, actor)
            else:
                hall.go(actor)
                model.go(actor)
            self.assert_alike(hall, model)
        return hall

    def assert_told_again(self, rooms, hall):
        log, moment = hall.log(), hall.moment()
        told = told_log(rooms, bare(log), moment)
        self.assertEqual(repr(told), repr(log))
        self.assertIs(log_holds(rooms, log, moment), True)

    def test_halls_by_chance(self):
        counts = {}
        for seed in range(400):
            chance = random.Random(seed)
            rooms, programs = chance_hall(chance, chance.randint(1, 5), 10)
            hall = self.gone(chance, rooms, programs)
            self.assert_told_again(rooms, hall)
            for kind in map(self.kind_of, hall.log()):
                counts[kind] = counts.get(kind, 0) + 1
        self.assert_often(counts, [kind for kind in KINDS if kind[0] != "took"])

    def test_logs_by_chance(self):
        counts = {}
        for seed in range(600):
            rooms, log, moment = chance_log(random.Random(seed), 30)
            self.assertEqual(repr(told_log(rooms, bare(log), moment)), repr(log))
            self.assertIs(log_holds(rooms, log, moment), True)
            for kind in map(self.kind_of, log):
                counts[kind] = counts.get(kind, 0) + 1
        self.assert_often(counts, KINDS)

    def assert_often(self, counts, kinds):
        """That each kind of row has come about often enough to mean something."""
        for kind in kinds:
            self.assertGreater(counts.get(kind, 0), 10, (kind, counts))

    def kind_of(self, row):
        """The kind of a row, by its word and its why."""
        if row[0] == "over":
            return ("over",)
        if row[0] == "miss":
            return ("miss", row[3][0], "why" if row[4] else "()")
        if row[0] == "took":
            return ("took", row[4] if row[4] in ("giver", "owner") else "above")
        return (row[0], "leaves" if row[-1] else "owner")

    def test_bare_logs_with_a_row_otherwise(self):
        """What is told again of a changed log holds, or is refused just where it first is wrong."""
        refused = told = 0
        for seed in range(500):
            chance = random.Random(seed)
            rooms, log, moment = chance_log(chance, 20)
            rows = bare(log)
            at = chance.randrange(len(rows))
            row = rows[at]
            other = chance.choice((
                row[:2] + (chance.choice(NAMES),) + row[3:], row[:1] + (row[1] + 1,) + row[2:], None,
            ))
            changed = rows[:at] + ([] if other is None else [other]) + rows[at + 1:]
            try:
                again = told_log(rooms, changed, moment)
            except NoLog as refusal:
                refused += 1
                self.assertGreaterEqual(refusal.row, at)
                # What stands ahead of the refused row is a log by itself.
                told_log(rooms, changed[:refusal.row], moment)
                self.assertRaises(NoLog, told_log, rooms, changed[:refusal.row + 1], moment)
            else:
                told += 1
                self.assertEqual(bare(again), changed)
                self.assertTrue(log_holds(rooms, again, moment))
        self.assertGreater(refused, 100)
        self.assertGreater(told, 100)


if __name__ == "__main__":
    unittest.main()
