"""Walks: actors on their ways through programs, and what is reckoned there."""

from leavechain.diary import opened_diary
from leavechain.leaves import NUMBER
from leavechain.words import is_worth


def begun_walk(rooms, programs):
    """The walk of actors that all stand at their beginnings."""
    places = {actor: 0 for actor in programs}
    known = {actor: {"missed": 0} for actor in programs}
    return Walk({actor: programs[actor] for actor in programs}, opened_diary(rooms), places, known)


class Walk:
    """Actors with their programs, their places in them and their locals, and the diary of it all."""

    def __init__(self, programs, diary, places, known):
        self.diary = diary
        self._programs = programs
        self._places = places
        # The locals that were given a worth, by actors, and missed, which is no local's name.
        self._known = known

    def twin(self):
        """Another walk that is just where this one is now."""
        known = {actor: dict(self._known[actor]) for actor in self._known}
        return Walk(self._programs, self.diary.twin(), dict(self._places), known)

    def actors(self):
        """All actors, by names."""
        return sorted(self._programs)

    def is_done(self, actor):
        """Whether an actor is at its end."""
        return self._places[actor] == len(self._programs[actor])

    def known_to(self, actor):
        """The locals of an actor that were given a worth, with missed."""
        return dict(self._known[actor])

    def pass_moments(self, many):
        """Let moments pass without a step."""
        self.diary.reach(self.diary.moment() + many)

    def go(self, actor):
        """Go one step of an actor that is not at its end."""
        step, follow = self._programs[actor][self._places[actor]]
        if step[0] == "when":
            unlike_zero, zero = follow
            follow = zero if self._reckon(actor, step[1]) == 0 else unlike_zero
        elif step[0] == "let":
            self._known[actor][step[1]] = self._reckon(actor, step[2])
        elif step[0] != "rest":
            self._learn(actor, step, self._do(actor, step))
        self._places[actor] = follow
        self.pass_moments(1)

    def _do(self, actor, step):
        """Do a look, set, give or take; tell the row that the diary writes of it."""
        if step[0] == "look":
            return self.diary.look(actor, step[1])
        if step[0] == "set":
            return self.diary.change(actor, step[1], self._reckon(actor, step[2]))
        if step[0] == "take":
            return self.diary.take(actor, self._reckon(actor, step[1]))
        _, deeds, room, holder, *reckoned = step[:7]
        since, until, passes = [self._reckon(actor, told) for told in reckoned]
        return self.diary.grant(actor, deeds, room, holder, since, until, passes)

    def _learn(self, actor, step, row):
        """Put what comes of a deed into the actor's locals."""
        known = self._known[actor]
        is_missed = row[0] == "miss"
        known["missed"] = 1 if is_missed else 0
        if step[0] == "look":
            known[step[2]] = 0 if is_missed else row[4]
        elif step[0] == "give":
            known[step[7]] = -1 if is_missed else row[3][NUMBER]

    def _reckon(self, actor, told):
        """What an actor's step tells to reckon comes to, at this moment."""
        return reckon(told, self._known[actor], self.diary.moment())


def reckon(told, known, now):
    """What a thing, or two things with a sign between, come to."""
    if len(told) != 3:
        return _worth(told, known, now)
    sign, left, right = told
    found = _join(sign, _worth(left, known, now), _worth(right, known, now))
    return found if is_worth(found) else 0


def _join(sign, left, right):
    """What two numbers come to by a sign."""
    if sign == "+":
        return left + right
    if sign == "-":
        return left - right
    if sign == "*":
        return left * right
    if sign == "<":
        return 1 if left < right else 0
    return 1 if left == right else 0


def _worth(thing, known, now):
    """The worth of a number, a local, now or missed."""
    if thing[0] == "num":
        return thing[1]
    if thing[0] == "local":
        return known.get(thing[1], 0)
    return now if thing[0] == "now" else known["missed"]
