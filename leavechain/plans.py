"""Plans: as few leaves as can be for what is wished, and trees that bar fewer."""

from leavechain.cases import OWNER
from leavechain.cases import TIES
from leavechain.cases import WISHES
from leavechain.cases import find_bar
from leavechain.cases import givers_to
from leavechain.cases import is_full
from leavechain.cases import is_in_ring
from leavechain.cases import lacks_time
from leavechain.cases import next_actor
from leavechain.leaves import is_leave
from leavechain.leaves import lies_within
from leavechain.ledger import Ledger
from leavechain.words import BOTH_DEEDS
from leavechain.words import is_deeds
from leavechain.words import is_name
from leavechain.words import is_span

MOST_TIES = 20
MOST_WISHES = 6
MOST_NAMES = 7
# All leaves of a plan are on one room, whatever its name; here it has this one.
ROOM_NAME = "room"


def is_trust(thing):
    """Whether anything is a trust."""
    if not isinstance(thing, tuple) or len(thing) != 3 or not is_name(thing[OWNER]):
        return False
    owner, ties, wishes = thing
    if not isinstance(ties, tuple) or len(ties) > MOST_TIES:
        return False
    if not isinstance(wishes, tuple) or not 1 <= len(wishes) <= MOST_WISHES:
        return False
    if not all([_is_tie(tie) for tie in ties]) or not all([_is_wish(wish) for wish in wishes]):
        return False
    actors = [wish[0] for wish in wishes]
    if owner in actors or len(set(actors)) < len(actors):
        return False
    names = actors + [name for tie in ties for name in tie[:2] if name != owner]
    return len(set(names)) <= MOST_NAMES


def _is_tie(thing):
    """Whether anything is a tie of a trust."""
    if not isinstance(thing, tuple) or len(thing) != 4:
        return False
    giver, receiver, since, until = thing
    return is_name(giver) and is_name(receiver) and giver != receiver and is_span(since, until)


def _is_wish(thing):
    """Whether anything is a wish of a trust, whoever the owner is."""
    if not isinstance(thing, tuple) or len(thing) != 4:
        return False
    actor, deeds, since, until = thing
    return is_name(actor) and is_deeds(deeds) and is_span(since, until)


def is_plan(trust, thing):
    """Whether anything is a plan of a trust."""
    if not isinstance(thing, tuple) or not all([_is_planned(part) for part in thing]):
        return False
    holders = [row[1] for row in thing]
    if holders != sorted(set(holders)) or trust[OWNER] in holders:
        return False
    if not all([_has_tie(trust, row) and _has_giver(trust, thing, row) for row in thing]):
        return False
    return all([_is_granted(thing, wish) for wish in trust[WISHES]])


def _is_planned(thing):
    """Whether anything makes a leave of a plan, by itself."""
    return isinstance(thing, tuple) and len(thing) == 6 and is_leave(_made_leave(thing))


def _made_leave(row):
    """A leave of a plan as a ledger's, as if it were the first one and the owner gave it."""
    giver, holder, deeds, since, until, passes = row
    return (0, ROOM_NAME, deeds, giver, holder, since, until, passes, None)


def _has_tie(trust, row):
    """Whether a leave of a plan lies in the moments of a tie from its giver to its holder."""
    since, until = row[3:5]
    ties = [tie for tie in trust[TIES] if tie[:2] == row[:2]]
    return any([tie[2] <= since and until <= tie[3] for tie in ties])


def _has_giver(trust, plan, row):
    """Whether the giver of a leave is the owner, or has a leave within which it lies."""
    if row[0] == trust[OWNER]:
        return True
    return any([lies_within(_made_leave(row), _made_leave(other)) for other in plan])


def _is_granted(plan, wish):
    """Whether a wish has the leave of its actor, with its deeds and moments within."""
    actor, deeds, since, until = wish
    for _, holder, granted, first, last, _ in plan:
        if holder == actor:
            return first <= since and until <= last and all([deed in granted for deed in deeds])
    return False


def least_plan(trust):
    """A plan of as few leaves as any, with a tree that bars fewer; or one that bars all."""
    if _find_open(trust, None, {}) is None:
        return ("none", _grow_tree(trust, None, {}))
    # There is a plan, so some most lets one be found.
    most = 1
    settled = _find_open(trust, most, {})
    while settled is None:
        most += 1
        settled = _find_open(trust, most, {})
    plan = tuple([_planned(trust, settled, actor) for actor in sorted(settled)])
    return ("plan", plan, _grow_tree(trust, most - 1, {}))


def _find_open(trust, most, settled):
    """The first case from this one on in which all that must be settled are, or None."""
    if find_bar(trust, most, settled) is not None:
        return None
    actor = next_actor(trust, settled)
    if actor is None:
        return settled
    for giver in givers_to(trust, actor):
        found = _find_open(trust, most, {**settled, actor: giver})
        if found is not None:
            return found
    return None


def _grow_tree(trust, most, settled):
    """The tree of a case from which on none is open."""
    bar = find_bar(trust, most, settled)
    if bar is not None:
        return bar
    actor = next_actor(trust, settled)
    givers = givers_to(trust, actor)
    trees = [(giver, _grow_tree(trust, most, {**settled, actor: giver})) for giver in givers]
    return ("giver", actor, tuple(trees))


def _planned(trust, settled, actor):
    """The leave of a settled actor, just so wide as what it must bear."""
    given = [_planned(trust, settled, other) for other in settled if settled[other] == actor]
    borne = [row[2:5] for row in given]
    borne.extend([wish[1:] for wish in trust[WISHES] if wish[0] == actor])
    deeds = tuple([deed for deed in BOTH_DEEDS if any([deed in part[0] for part in borne])])
    since = min([part[1] for part in borne])
    until = max([part[2] for part in borne])
    passes = max([row[5] + 1 for row in given], default=0)
    return (settled[actor], actor, deeds, since, until, passes)


def tree_holds(trust, most, tree):
    """Whether anything is a tree that bars all plans of at most so many leaves."""
    return _holds(trust, most, {}, tree)


def _holds(trust, most, settled, tree):
    """Whether anything is the tree of a case, with none open from it on."""
    if not isinstance(tree, tuple) or not all([isinstance(part, str) for part in tree[:2]]):
        return False
    if len(tree) == 3:
        return _goes_on(trust, most, settled, tree)
    return _bars(trust, most, settled, tree)


def _bars(trust, most, settled, bar):
    """Whether texts are a bar that is so for a case."""
    if len(bar) == 1:
        return bar[0] == "many" and is_full(trust, most, settled)
    if len(bar) != 2 or bar[1] not in settled:
        return False
    if bar[0] == "ring":
        return is_in_ring(settled, bar[1])
    return bar[0] == "time" and lacks_time(trust, settled, bar[1])


def _goes_on(trust, most, settled, tree):
    """Whether a tree goes on to the next actor with all its givers, and their trees hold."""
    word, actor, trees = tree
    if word != "giver" or actor != next_actor(trust, settled) or not isinstance(trees, tuple):
        return False
    givers = givers_to(trust, actor)
    if len(trees) != len(givers):
        return False
    for giver, told in zip(givers, trees):
        if not isinstance(told, tuple) or len(told) != 2:
            return False
        if not isinstance(told[0], str) or told[0] != giver:
            return False
        if not _holds(trust, most, {**settled, actor: giver}, told[1]):
            return False
    return True


def plan_leaves(trust, plan, room):
    """The leaves of a plan as a ledger at moment 0 numbers them when they are given."""
    ledger = Ledger({room: (trust[OWNER], 0)})
    left = list(plan)
    givers = [trust[OWNER]]
    while left:
        # A plan stands by holders' names, so the first one is the least.
        ready = [row for row in left if row[0] in givers]
        giver, holder, deeds, since, until, passes = ready[0]
        ledger.give(giver, deeds, room, holder, since, until, passes=passes)
        givers.append(holder)
        left.remove(ready[0])
    return ledger.leaves()
