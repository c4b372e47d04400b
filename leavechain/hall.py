"""The hall: rooms, and actors that go through programs, one step a moment."""

from leavechain.errors import Done
from leavechain.errors import NoActor
from leavechain.errors import NoHall
from leavechain.leaves import is_rooms
from leavechain.programs import is_steps
from leavechain.walks import begun_walk
from leavechain.words import is_name

MOST_ACTORS = 5


class Hall:
    """Some rooms, and actors each on its way through its program."""

    def __init__(self, rooms, programs):
        if not is_rooms(rooms) or not _are_programs(programs):
            raise NoHall("a hall is made with rooms and programs")
        self._walk = begun_walk(rooms, programs)

    def go(self, actor):
        """Go one step of an actor; NoActor, or Done where it is at its end."""
        if self.is_done(actor):
            raise Done("the actor is at its end")
        self._walk.go(actor)

    def wait(self, *, moments=1):
        """Let moments pass without a step."""
        self._walk.pass_moments(moments)

    def moment(self):
        """The hall's moment."""
        return self._walk.diary.moment()

    def is_done(self, actor):
        """Whether an actor is at its end, or NoActor."""
        self._ask_for(actor)
        return self._walk.is_done(actor)

    def locals_of(self, actor):
        """The locals of an actor that were given a worth, with missed, or NoActor."""
        self._ask_for(actor)
        return self._walk.known_to(actor)

    def worths(self):
        """The rooms' worths, by names."""
        return self._walk.diary.worths()

    def leaves(self):
        """All leaves that were given, by numbers."""
        return self._walk.diary.leaves()

    def log(self):
        """The rows of all that was done, was missed and came to its end."""
        return self._walk.diary.rows()

    def _ask_for(self, actor):
        """Refuse what is no actor's name with NoActor."""
        if actor not in self._walk.actors():
            raise NoActor("there is no such actor")


def _are_programs(thing):
    """Whether anything is a dict from one to five names to steps."""
    if not isinstance(thing, dict) or not 1 <= len(thing) <= MOST_ACTORS:
        return False
    return all(is_name(actor) and is_steps(thing[actor]) for actor in thing)
