"""Halls by another way: straight from the document's sentences, and halls by chance."""

from leavechain.leaves import is_leave
from leavechain.programs import read_program

ALL_DEEDS = (("look",), ("set",), ("look", "set"))


def links_of(leaves, number):
    """The numbers of a leave's chain, from the one that the owner gave on."""
    under = leaves[number][8]
    return (*(() if under is None else links_of(leaves, under)), number)


def stands(leaves, back, number, moment):
    """Whether a leave stands at a moment; back are the moments of takings."""
    return all(
        leaves[link][5] <= moment < leaves[link][6] and not back.get(link, moment + 1) <= moment
        for link in links_of(leaves, number)
    )


def right_to(owner, leaves, back, actor, deed, room, moment):
    """The chain by which an actor is let at a moment, or None."""
    if actor == owner:
        return ()
    for leave in leaves:
        if leave[4] == actor and leave[1] == room and deed in leave[2]:
            if stands(leaves, back, leave[0], moment):
                return links_of(leaves, leave[0])
    return None


class HallModel:
    """A hall that keeps all that ever was, and reckons each thing anew."""

    def __init__(self, rooms, programs):
        self.rooms, self.programs = rooms, programs
        self.worths = {room: held[1] for room, held in rooms.items()}
        self.known = {actor: {"missed": 0} for actor in programs}
        self.place = {actor: 0 for actor in programs}
        self.now = 0
        self.given, self.back, self.rows = [], {}, []

    def pass_moment(self):
        self.now += 1
        for leave in self.given:
            if leave[6] == self.now and leave[0] not in self.back:
                self.rows.append(("over", self.now, leave[0]))

    def reckon(self, actor, told):
        if len(told) == 3:
            left, right = self.reckon(actor, told[1]), self.reckon(actor, told[2])
            found = {"+": left + right, "-": left - right, "*": left * right,
                     "<": int(left < right), "=": int(left == right)}[told[0]]
            return 0 if len(str(abs(found))) > 9 else found
        return {"num": lambda: told[1], "local": lambda: self.known[actor].get(told[1], 0),
                "now": lambda: self.now, "missed": lambda: self.known[actor]["missed"]}[told[0]]()

    def alone(self, number):
        if number in self.back:
            return "taken"
        since, until = self.given[number][5:7]
        return "early" if since > self.now else "over" if until <= self.now else None

    def why_not(self, actor, deed, room):
        told = []
        for leave in self.given:
            if leave[4] == actor and leave[1] == room and deed in leave[2]:
                link = [at for at in links_of(self.given, leave[0]) if self.alone(at)][0]
                told.append((leave[0], link, self.alone(link)))
        return tuple(told)

    def use(self, actor, deed, room, worth=None):
        """Do a look or a set; the row, behind its moment and actor."""
        if room not in self.rooms:
            return ("miss", (deed, room), ())
        chain = right_to(self.rooms[room][0], self.given, self.back, actor, deed, room, self.now)
        if chain is None:
            return ("miss", (deed, room), self.why_not(actor, deed, room))
        if deed == "set":
            self.worths[room] = worth
        return (deed, room, self.worths[room], chain)

    def give(self, actor, deeds, room, holder, since, until, passes):
        missed = ("miss", ("give", deeds, room, holder, since, until, passes), ())
        leave = (len(self.given), room, deeds, actor, holder, since, until, passes, None)
        if room not in self.rooms or not is_leave(leave) or until <= self.now:
            return missed
        chain = ()
        if actor != self.rooms[room][0]:
            unders = [
                other[0] for other in self.given
                if other[4] == actor and other[1] == room and set(deeds) <= set(other[2])
                and other[5] <= since and until <= other[6] and passes < other[7]
                and not any(self.alone(link) in ("taken", "over")
                            for link in links_of(self.given, other[0]))
            ]
            if not unders:
                return missed
            leave = (*leave[:8], unders[0])
            chain = links_of(self.given, unders[0])
        self.given.append(leave)
        return ("gave", leave, chain)

    def take(self, actor, number):
        missed = ("miss", ("take", number), ())
        if not 0 <= number < len(self.given) or self.alone(number) in ("taken", "over"):
            return missed
        leave = self.given[number]
        above = links_of(self.given, number)[:-1]
        rights = [at for at in above if self.given[at][4] == actor][-1:]
        if actor == self.rooms[leave[1]][0]:
            rights = ["owner"]
        if actor == leave[3]:
            rights = ["giver"]
        if not rights:
            return missed
        self.back[number] = self.now
        return ("took", number, rights[0])

    def write(self, actor, row):
        """Write a row without its moment and actor."""
        self.rows.append((row[0], self.now, actor, *row[1:]))

    def go(self, actor):
        step, follow = self.programs[actor][self.place[actor]]
        known, row = self.known[actor], None
        if step[0] == "when":
            follow = follow[0] if self.reckon(actor, step[1]) else follow[1]
        elif step[0] == "let":
            known[step[1]] = self.reckon(actor, step[2])
        elif step[0] == "look":
            row = self.use(actor, "look", step[1])
            known[step[2]] = row[2] if row[0] == "look" else 0
        elif step[0] == "set":
            row = self.use(actor, "set", step[1], self.reckon(actor, step[2]))
        elif step[0] == "take":
            row = self.take(actor, self.reckon(actor, step[1]))
        elif step[0] == "give":
            told = [self.reckon(actor, part) for part in step[4:7]]
            row = self.give(actor, *step[1:4], *told)
            known[step[7]] = row[1][0] if row[0] == "gave" else -1
        if row is not None:
            known["missed"] = int(row[0] == "miss")
            self.write(actor, row)
        self.place[actor] = follow
        self.pass_moment()


def chance_thing(chance):
    return chance.choice(("0", "1", "2", "3", "now", "now", "missed", "x", "y", "n", "999999999",
                          str(chance.randint(0, 30))))


def chance_reckoned(chance):
    if chance.random() < 0.5:
        return chance_thing(chance)
    return f"{chance_thing(chance)} {chance.choice('+-*<=')} {chance_thing(chance)}"


def chance_row(chance, names, rooms):
    """A row of a program that is no when."""
    room = chance.choice([*rooms, *rooms[:1] * 6, "nowhere"])
    kind = chance.choice(("look", "look", "set", "give", "give", "give", "give", "take", "take", "let",
                          "rest"))
    local = chance.choice(("x", "y", "n"))
    if kind == "look":
        return f"look {room} as {local}"
    if kind == "set":
        return f"set {room} to {chance_reckoned(chance)}"
    if kind == "give":
        deeds = "+".join(chance.choice((*ALL_DEEDS, ALL_DEEDS[2], ALL_DEEDS[2])))
        since = chance.choice(("0", "0", "0", "0", "0", "0", "1", "now", chance_reckoned(chance)))
        until = chance.choice(("now + 2", "now + 5", "14", "22", "30", "30",
                               chance_reckoned(chance)))
        passes = chance.choice(("0", "1", "2", "3", "4", "5", chance_reckoned(chance)))
        return (f"give {deeds} on {room} to {chance.choice(names)} since {since} until {until} "
                f"passes {passes} as {local}")
    if kind == "take":
        number = chance.choice(("n", "0", "1", "2", "3", "4", chance_reckoned(chance)))
        return f"take {number}"
    if kind == "let":
        return f"let {local} be {chance_reckoned(chance)}"
    return "rest"


def chance_rows(chance, names, rooms, many, deep=0):
    """Rows of a program with about so many steps."""
    rows = []
    while many > 0:
        if deep < 2 and many > 2 and chance.random() < 0.15:
            inner = chance.randint(0, many - 1)
            rows.append(f"when {chance_reckoned(chance)}")
            rows += chance_rows(chance, names, rooms, inner, deep + 1)
            if chance.random() < 0.5:
                rows.append("else")
                rows += chance_rows(chance, names, rooms, chance.randint(0, inner), deep + 1)
            rows.append("end")
            many -= inner + 1
        else:
            rows.append(chance_row(chance, names, rooms))
            many -= 1
    return rows


def chance_hall(chance, actors, most):
    """Rooms and programs by chance, of so many actors with about so many steps at most."""
    names = ["ann", "bob", "cid", "dan", "eve"][:actors]
    rooms = {}
    for room in ("den", "attic", "cellar")[:chance.randint(1, 3)]:
        rooms[room] = (chance.choice([*names, "zoe"]) if rooms else "ann", chance.randint(-9, 9))
    programs = {}
    for name in names:
        rows = chance_rows(chance, names, list(rooms), chance.randint(1, most))
        at = names.index(name)
        if at + 1 < actors:
            # Else hardly a leave would be given under another one.
            given = chance.choice(names[at + 1:at + 3])
            rows = [f"give look+set on den to {given} since 0 until {30 - at} passes {5 - at} as n",
                    *rows, f"take {chance.randint(0, 3)}"]
        programs[name] = read_program("".join(row + "\n" for row in rows))
    return rooms, programs


NAMES = ("ann", "zoe", "bob", "cid", "dan", "eve")


def chance_leave(chance, model):
    """The number of some leave, often of one with many above it that is not lost."""
    left = [leave[0] for leave in model.given if model.alone(leave[0]) in (None, "early")]
    if not left or chance.random() < 0.2:
        return chance.randrange(len(model.given))
    chains = [(len(links_of(model.given, number)), number) for number in left]
    return chance.choice((chance.choice(left), max(chains)[1]))


def chance_gift(chance, model):
    """The actor and the parts of a giving, often one that lies within some leave."""
    actor, holder = chance.choice(NAMES), chance.choice(NAMES)
    room = chance.choice((*["den"] * 6, "attic", "attic", "cellar"))
    since, until = model.now + chance.randint(-3, 3), model.now + chance.randint(2, 40)
    deeds, passes = chance.choice((*ALL_DEEDS, ALL_DEEDS[2])), chance.randint(0, 7)
    if chance.random() < 0.4:
        actor, passes = model.rooms.get(room, (actor,))[0], chance.randint(3, 6)
    elif model.given and chance.random() < 0.8:
        leave = model.given[chance_leave(chance, model)]
        room, actor = leave[1], leave[4]
        since = leave[5] + chance.choice((0, 0, 0, 2, -1))
        until = leave[6] - chance.choice((0, 0, 0, 2, -1))
        deeds = chance.choice((leave[2], leave[2], deeds))
        passes = leave[7] - chance.choice((0, 1, 1, 1, 2))
    return actor, deeds, room, holder, since, until, passes


def chance_log(chance, many):
    """Rooms, the log of so many deeds done there by anybody, and a moment behind them."""
    rooms = {"den": ("ann", 5), "attic": ("zoe", -3)}
    model = HallModel(rooms, {})
    for _ in range(many):
        for _ in range(chance.choice((0, 0, 0, 0, 1, 4))):
            model.pass_moment()
        kind = chance.choice(("look", "set", "give", "give", "give", "take"))
        actor = chance.choice(NAMES)
        if kind == "give":
            gift = chance_gift(chance, model)
            model.write(gift[0], model.give(*gift))
        elif kind == "take":
            number = chance.randint(-1, len(model.given))
            if model.given and chance.random() < 0.8:
                number = chance_leave(chance, model)
                above = links_of(model.given, number)[:-1]
                holders = [model.given[at][4] for at in above]
                owner = rooms[model.given[number][1]][0]
                actor = chance.choice((actor, owner, *holders, *holders[:-1]))
            model.write(actor, model.take(actor, number))
        else:
            if model.given and chance.random() < 0.6:
                actor = chance.choice(model.given)[4]
            room = chance.choice((*["den"] * 6, "attic", "attic", "cellar"))
            model.write(actor, model.use(actor, kind, room, chance.randint(-9, 9)))
        model.pass_moment()
    for _ in range(chance.randint(0, 9)):
        model.pass_moment()
    return rooms, model.rows, model.now
