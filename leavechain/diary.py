"""The diary of some rooms: what is done there and what is missed, in rows with their whys."""

from leavechain.errors import HallError
from leavechain.leaves import NUMBER
from leavechain.leaves import UNTIL
from leavechain.ledger import Ledger


def opened_diary(rooms):
    """The diary of rooms in which nothing was done yet."""
    return Diary(Ledger(rooms), {name: rooms[name][1] for name in rooms}, [])


class Diary:
    """The worths of some rooms, their ledger, and the log of all deeds.

    Each deed is tried, and tells the row that is written of it: its own, or a miss.
    """

    def __init__(self, ledger, worths, rows):
        self._ledger = ledger
        self._worths = worths
        self._rows = rows

    def twin(self):
        """Another diary just as this one is now."""
        return Diary(self._ledger.twin(), dict(self._worths), list(self._rows))

    def moment(self):
        """The moment to which the diary has come."""
        return self._ledger.moment()

    def worths(self):
        """The rooms' worths, by names."""
        return dict(self._worths)

    def leaves(self):
        """All leaves that were given, by numbers."""
        return self._ledger.leaves()

    def rows(self):
        """The log."""
        return list(self._rows)

    def reach(self, moment):
        """Come to a later moment, or the same; leaves that end on the way are written."""
        now = self._ledger.moment()
        taken = self._ledger.taken()
        ends = [
            (leave[UNTIL], leave[NUMBER])
            for leave in self._ledger.leaves()
            if now < leave[UNTIL] <= moment and leave[NUMBER] not in taken
        ]
        self._rows.extend([("over", until, number) for until, number in sorted(ends)])
        self._ledger.reach(moment)

    def look(self, actor, room):
        """Look into a room."""
        chain = self._chain(actor, "look", room)
        if chain is None:
            return self._miss(actor, ("look", room), self._why_not(actor, "look", room))
        return self._write(("look", self.moment(), actor, room, self._worths[room], chain))

    def change(self, actor, room, worth):
        """Set the worth of a room."""
        chain = self._chain(actor, "set", room)
        if chain is None:
            return self._miss(actor, ("set", room), self._why_not(actor, "set", room))
        self._worths[room] = worth
        return self._write(("set", self.moment(), actor, room, worth, chain))

    def grant(self, actor, deeds, room, holder, since, until, passes):
        """Give a leave."""
        try:
            number = self._ledger.give(actor, deeds, room, holder, since, until, passes=passes)
        except HallError:
            return self._miss(actor, ("give", deeds, room, holder, since, until, passes), ())
        leave = self._ledger.leaves()[number]
        return self._write(("gave", self.moment(), actor, leave, self._ledger.links(number)[:-1]))

    def take(self, actor, number):
        """Take a leave back."""
        try:
            self._ledger.take(actor, number)
        except HallError:
            return self._miss(actor, ("take", number), ())
        right = self._ledger.right_to_take(actor, number)
        return self._write(("took", self.moment(), actor, number, right))

    def _chain(self, actor, deed, room):
        """The leaves by which the actor is let, or None, also where there is no such room."""
        return self._ledger.chain(actor, deed, room) if room in self._worths else None

    def _why_not(self, actor, deed, room):
        """Why the actor is not let, told for a room that is not there, too."""
        return self._ledger.why_not(actor, deed, room) if room in self._worths else ()

    def _miss(self, actor, what, why):
        """Write what an actor misses."""
        return self._write(("miss", self.moment(), actor, what, why))

    def _write(self, row):
        """Write a row, and tell it."""
        self._rows.append(row)
        return row
