"""The ledger: which leaves are given, taken back, and stand."""

from leavechain.errors import NoGift
from leavechain.errors import NoHall
from leavechain.errors import NoLeave
from leavechain.errors import NoMoment
from leavechain.errors import NoRoom
from leavechain.errors import NotLet
from leavechain.leaves import DEEDS
from leavechain.leaves import GIVER
from leavechain.leaves import HOLDER
from leavechain.leaves import ROOM
from leavechain.leaves import SINCE
from leavechain.leaves import UNDER
from leavechain.leaves import UNTIL
from leavechain.leaves import is_leave
from leavechain.leaves import is_rooms
from leavechain.leaves import lies_within
from leavechain.words import is_between
from leavechain.words import is_moment

TAKEN = "taken"
EARLY = "early"
OVER = "over"


class Ledger:
    """The leaves on some rooms, at a moment that only goes on."""

    def __init__(self, rooms):
        if not is_rooms(rooms):
            raise NoHall("a ledger is made with rooms")
        self._rooms = {name: rooms[name] for name in rooms}
        self._moment = 0
        self._leaves = []
        self._taken = {}

    def move_on(self, moment):
        """Move the ledger on to a later moment, or the same; else NoMoment."""
        if not is_moment(moment) or moment < self._moment:
            raise NoMoment("a ledger is moved on to a later moment, or the same")
        self.reach(moment)

    def reach(self, moment):
        """Come to a later moment, or the same; halls may go beyond the last one, too."""
        self._moment = moment

    def moment(self):
        """The ledger's moment."""
        return self._moment

    def stands(self, number):
        """Whether the leave of that number stands now, or NoLeave."""
        if not self._is_given(number):
            raise NoLeave("no leave has that number")
        return all(self._cause(link) is None for link in self.links(number))

    def links(self, number):
        """The numbers of a given leave's chain, standing or not, from the owner's on."""
        links = [number]
        under = self._leaves[number][UNDER]
        while under is not None:
            links.append(under)
            under = self._leaves[under][UNDER]
        return tuple(links[::-1])

    def chain(self, actor, deed, room):
        """The numbers of the leaves by which the actor is let, or None; NoRoom."""
        if actor == self._owner(room):
            return ()
        for number in self._held(actor, deed, room):
            if self.stands(number):
                return self.links(number)
        return None

    def why_not(self, actor, deed, room):
        """Why each leave of the actor does not let it, or None where it is let; NoRoom."""
        if self.chain(actor, deed, room) is not None:
            return None
        return tuple([self._fall(number) for number in self._held(actor, deed, room)])

    def give(self, giver, deeds, room, holder, since, until, *, passes=0):
        """Give a leave and tell its number; NoRoom, NoGift or NotLet."""
        owner = self._owner(room)
        number = len(self._leaves)
        leave = (number, room, deeds, giver, holder, since, until, passes, None)
        if not is_leave(leave) or until <= self._moment:
            raise NoGift("this makes no leave that is still to end")
        if giver != owner:
            leave = leave[:UNDER] + (self._under(leave),)
        self._leaves.append(leave)
        return number

    def take(self, actor, number):
        """Take the leave of that number back; NoLeave or NotLet."""
        if not self._is_given(number) or self._cause(number) in (TAKEN, OVER):
            raise NoLeave("no leave of that number can still be taken back")
        if self.right_to_take(actor, number) is None:
            raise NotLet("this actor may not take the leave back")
        self._taken[number] = self._moment

    def right_to_take(self, actor, number):
        """By what an actor may take a given leave back, or None.

        That is "giver", "owner" or the number of the nearest leave above that it holds.
        """
        leave = self._leaves[number]
        if actor == leave[GIVER]:
            return "giver"
        if actor == self._owner(leave[ROOM]):
            return "owner"
        for link in reversed(self.links(number)[:-1]):
            if actor == self._leaves[link][HOLDER]:
                return link
        return None

    def leaves(self):
        """All leaves that were given, by numbers."""
        return list(self._leaves)

    def taken(self):
        """The moments at which leaves were taken back, by their numbers."""
        return dict(self._taken)

    def twin(self):
        """Another ledger just as this one is now."""
        other = Ledger(self._rooms)
        other._moment = self._moment
        other._leaves = list(self._leaves)
        other._taken = dict(self._taken)
        return other

    def _owner(self, room):
        """The owner of a room, or NoRoom."""
        if not isinstance(room, str) or room not in self._rooms:
            raise NoRoom("there is no such room")
        return self._rooms[room][0]

    def _is_given(self, number):
        """Whether a leave has that number."""
        return is_between(number, 0, len(self._leaves) - 1)

    def _held(self, actor, deed, room):
        """The numbers of the actor's leaves on a room that have the deed."""
        return [
            number
            for number, leave in enumerate(self._leaves)
            if leave[HOLDER] == actor and leave[ROOM] == room and deed in leave[DEEDS]
        ]

    def _cause(self, number):
        """Why a leave does not stand by itself, whatever is above it, or None."""
        leave = self._leaves[number]
        if number in self._taken:
            return TAKEN
        if self._moment < leave[SINCE]:
            return EARLY
        if self._moment >= leave[UNTIL]:
            return OVER
        return None

    def _fall(self, number):
        """A leave that does not stand, with the first link that does not, and its cause."""
        for link in self.links(number):
            cause = self._cause(link)
            if cause is not None:
                return (number, link, cause)
        return None

    def _is_lost(self, number):
        """Whether a leave stands no more and will not again."""
        return any(self._cause(link) in (TAKEN, OVER) for link in self.links(number))

    def _under(self, leave):
        """The number of the leave under which a leave is given, or NotLet."""
        for number, other in enumerate(self._leaves):
            if lies_within(leave, other) and not self._is_lost(number):
                return number
        raise NotLet("the giver has no leave within which this one lies")
