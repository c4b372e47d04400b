"""The cases of a trust: who must have a leave, who may give it, and what bars a case.

A case is told as a dict from the settled actors to their givers, in the order in which
they were settled.
"""

# Where the parts of a trust stand in it.
OWNER = 0
TIES = 1
WISHES = 2


def next_actor(trust, settled):
    """The first one that must have a leave and is not settled, or None."""
    needed = [wish[0] for wish in trust[WISHES]]
    needed.extend([giver for giver in settled.values() if giver != trust[OWNER]])
    for actor in needed:
        if actor not in settled:
            return actor
    return None


def givers_to(trust, actor):
    """All that have a tie to an actor, by names."""
    return sorted({tie[0] for tie in trust[TIES] if tie[1] == actor})


def find_bar(trust, most, settled):
    """What bars a case, or None."""
    if is_full(trust, most, settled):
        return ("many",)
    for actor in settled:
        if is_in_ring(settled, actor):
            return ("ring", actor)
        if lacks_time(trust, settled, actor):
            return ("time", actor)
    return None


def is_full(trust, most, settled):
    """Whether no more may be settled, though one more must be."""
    return most is not None and len(settled) >= most and next_actor(trust, settled) is not None


def is_in_ring(settled, actor):
    """Whether going up from an actor by givers comes round to it."""
    return actor in _above(settled, actor)


def lacks_time(trust, settled, actor):
    """Whether all that a settled actor must bear lies in no tie from its giver to it."""
    borne = [
        wish for wish in trust[WISHES]
        if wish[0] == actor or actor in _above(settled, wish[0])
    ]
    ties = [tie for tie in trust[TIES] if tie[:2] == (settled[actor], actor)]
    return not any([_bears(tie, borne) for tie in ties])


def _bears(tie, wishes):
    """Whether all wishes lie in the moments of a tie."""
    return all([tie[2] <= wish[2] and wish[3] <= tie[3] for wish in wishes])


def _above(settled, actor):
    """All to whom going up from an actor by givers comes, each once."""
    found = []
    giver = settled.get(actor)
    while giver is not None and giver not in found:
        found.append(giver)
        giver = settled.get(giver)
    return found
