"""Weavings: all ways in which the programs of a hall can be gone through together."""

from math import comb

from leavechain.errors import NoRoom
from leavechain.errors import TooMany
from leavechain.programs import most_steps
from leavechain.walks import begun_walk
from leavechain.words import BOTH_DEEDS

MOST_WAYS = 4000


def weavings(rooms, programs):
    """How many weavings there are, their ends, and the first one with a miss; or TooMany."""
    _ask_for_few(programs)
    many = 0
    ends = {}
    missing = None
    for weaving, walk in _woven(rooms, programs):
        many += 1
        end = _end(walk)
        if end in ends:
            alike, first = ends[end]
            ends[end] = (alike + 1, first)
        else:
            ends[end] = (1, weaving)
        if missing is None and _has_miss(walk):
            # A list of its own: the same weaving may be the first of an end, too.
            missing = list(weaving)
    return many, ends, missing


def spans(rooms, programs, room):
    """The first and the last moments of each actor's deeds on a room; NoRoom or TooMany."""
    if room not in rooms:
        raise NoRoom("there is no such room")
    _ask_for_few(programs)
    found = {}
    for _, walk in _woven(rooms, programs):
        for word, moment, *parts in walk.diary.rows():
            if word in BOTH_DEEDS and parts[1] == room:
                done = (parts[0], word)
                first, last = found.get(done, (moment, moment))
                found[done] = (min(first, moment), max(last, moment))
    return found


def _ask_for_few(programs):
    """Refuse programs whose longest ways can be woven in too many ways with TooMany."""
    ways = 1
    steps = 0
    for actor in programs:
        longest = most_steps(programs[actor])
        steps += longest
        ways *= comb(steps, longest)
    if ways > MOST_WAYS:
        raise TooMany("the programs can be woven in too many ways")


def _woven(rooms, programs):
    """All weavings in the order of lists, each with the walk that has gone by it."""
    left = [([], begun_walk(rooms, programs))]
    while left:
        gone, walk = left.pop()
        undone = [actor for actor in walk.actors() if not walk.is_done(actor)]
        if len(undone) == 0:
            yield gone, walk
        # The least actor's turn is left last, so that it is taken up first.
        for actor in reversed(undone):
            other = walk.twin()
            other.go(actor)
            left.append((gone + [actor], other))


def _end(walk):
    """The worths and the locals to which a walk has come."""
    known = [(actor, _pairs(walk.known_to(actor))) for actor in walk.actors()]
    return (_pairs(walk.diary.worths()), tuple(known))


def _pairs(told):
    """The pairs of a dict, by names."""
    return tuple(sorted(told.items()))


def _has_miss(walk):
    """Whether some step of a walk was missed."""
    return any([row[0] == "miss" for row in walk.diary.rows()])
