"""Plans and trees by another way: straight from the document's sentences, by trying all."""

import itertools


def names_of(trust):
    """All names of a trust beside the owner's."""
    owner, ties, wishes = trust
    names = {name for tie in ties for name in tie[:2]} | {wish[0] for wish in wishes}
    return sorted(names - {owner})


def chosen_givers(trust, holders):
    """All ways to give each holder a giver, as dicts."""
    owner, ties, _ = trust
    choices = [
        sorted({giver for giver, receiver, _, _ in ties
                if receiver == holder and (giver == owner or giver in holders)})
        for holder in holders
    ]
    for givers in itertools.product(*choices):
        yield dict(zip(holders, givers))


def is_bearable(trust, givers):
    """Whether leaves along these givers can bear what they must."""
    owner, ties, wishes = trust
    for holder in givers:
        up, seen = holder, set()
        while up != owner:
            if up in seen:
                return False
            seen.add(up)
            up = givers[up]
    for holder, giver in givers.items():
        borne = []
        for actor, _, since, until in wishes:
            up = actor
            while up not in (holder, owner):
                up = givers[up]
            if up == holder:
                borne.append((since, until))
        # A leave that bears nothing is not asked for here.
        if borne:
            since, until = min(told[0] for told in borne), max(told[1] for told in borne)
            if not any(tie[:2] == (giver, holder) and tie[2] <= since and until <= tie[3]
                       for tie in ties):
                return False
    return True


def least_many(trust):
    """How many leaves the least plan has, or None: all sets of holders, all their givers."""
    wishers = [wish[0] for wish in trust[2]]
    names = names_of(trust)
    for many in range(len(wishers), len(names) + 1):
        for holders in itertools.combinations(names, many):
            if all(wisher in holders for wisher in wishers):
                for givers in chosen_givers(trust, holders):
                    if is_bearable(trust, givers):
                        return many
    return None


def just_so_wide(trust, plan):
    """The plan's leaves as wide as what they must bear, by their holders and givers alone."""
    wide = {}

    def widen(holder):
        below = [row[1] for row in plan if row[0] == holder]
        for other in below:
            widen(other)
        borne = [wide[other] for other in below]
        own = [(set(deeds), since, until, -1) for actor, deeds, since, until in trust[2]
               if actor == holder]
        borne += own
        deeds = set().union(*[told[0] for told in borne])
        wide[holder] = (deeds, min(told[1] for told in borne), max(told[2] for told in borne),
                        max(told[3] for told in borne) + 1)

    for row in plan:
        if row[0] == trust[0]:
            widen(row[1])
    rows = []
    for giver, holder, *_ in plan:
        deeds, since, until, passes = wide[holder]
        told = tuple(deed for deed in ("look", "set") if deed in deeds)
        rows.append((giver, holder, told, since, until, passes))
    return tuple(rows)


def ups(case, owner, actor):
    """The names to which one comes going up from a settled actor, with a mark of a ring."""
    found = []
    while actor in case:
        actor = case[actor]
        if actor in found:
            break
        found.append(actor)
    return found


def is_tree(trust, most, case, tree):
    """Whether a tree made of tuples and texts holds for a case, told as [21] tells it."""
    owner, ties, wishes = trust
    must = [wish[0] for wish in wishes] + [giver for giver in case.values() if giver != owner]
    open_ones = [actor for actor in must if actor not in case]
    if tree == ("many",):
        return most is not None and len(case) >= most and len(open_ones) > 0
    if len(tree) == 2 and tree[0] == "ring":
        return tree[1] in case and tree[1] in ups(case, owner, tree[1])
    if len(tree) == 2 and tree[0] == "time":
        actor = tree[1]
        if actor not in case:
            return False
        borne = [wish for wish in wishes
                 if wish[0] in case and (wish[0] == actor or actor in ups(case, owner, wish[0]))]
        since, until = min(wish[2] for wish in borne), max(wish[3] for wish in borne)
        for giver, receiver, first, last in ties:
            if (giver, receiver) == (case[actor], actor) and first <= since and until <= last:
                return False
        return True
    if len(tree) != 3 or tree[0] != "giver" or not open_ones or tree[1] != open_ones[0]:
        return False
    givers = sorted({giver for giver, receiver, _, _ in ties if receiver == tree[1]})
    if [told[0] for told in tree[2]] != givers:
        return False
    return all(is_tree(trust, most, {**case, tree[1]: giver}, told) for giver, told in tree[2])


def chance_trust(chance, most_names=5):
    """A trust by chance, often one with a plan."""
    names = list("bcdefgh")[:chance.randint(1, most_names)]
    ties = []
    for _ in range(chance.randint(0, 4 * len(names))):
        giver = chance.choice(["a"] * 2 + names)
        receiver = chance.choice([name for name in names + ["a"] * (chance.random() < 0.05)
                                  if name != giver] or ["b"])
        if giver != receiver:
            since = chance.choice((0, 0, 1, 3))
            ties.append((giver, receiver, since, since + chance.choice((2, 5, 9, 9, 9))))
    wishers = chance.sample(names, min(len(names), chance.randint(1, 4)))
    wishes = []
    for wisher in wishers:
        since = chance.randint(0, 6)
        deeds = chance.choice((("look",), ("set",), ("look", "set")))
        wishes.append((wisher, deeds, since, since + chance.randint(1, 3)))
    return ("a", tuple(ties[:20]), tuple(wishes))
