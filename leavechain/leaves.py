"""Rooms and leaves, and the texts of them."""

from leavechain.errors import NoText
from leavechain.words import is_between
from leavechain.words import is_deeds
from leavechain.words import is_name
from leavechain.words import is_span
from leavechain.words import is_whole
from leavechain.words import is_worth
from leavechain.words import read_deeds
from leavechain.words import read_figures
from leavechain.words import read_whole
from leavechain.words import show_deeds
from leavechain.words import split_rows

MOST_ROOMS = 4
MOST_PASSES = 6

# Where the parts of a leave stand in it.
NUMBER = 0
ROOM = 1
DEEDS = 2
GIVER = 3
HOLDER = 4
SINCE = 5
UNTIL = 6
PASSES = 7
UNDER = 8

# The words ahead of the parts in a row, in the parts' order.
ROOM_WORDS = ("room", "of", "holds")
LEAVE_WORDS = ("leave", "on", "to", "from", "for", "since", "until", "passes", "under")


def is_rooms(thing):
    """Whether anything is rooms."""
    if not isinstance(thing, dict) or not 1 <= len(thing) <= MOST_ROOMS:
        return False
    return all(is_name(name) and _is_held(thing[name]) for name in thing)


def _is_held(thing):
    """Whether anything is an owner with a worth."""
    if not isinstance(thing, tuple) or len(thing) != 2:
        return False
    owner, worth = thing
    return is_name(owner) and is_worth(worth)


def is_leave(thing):
    """Whether anything is a leave."""
    if not isinstance(thing, tuple) or len(thing) != 9:
        return False
    number, room, deeds, giver, holder, since, until, passes, under = thing
    if not is_whole(number) or number < 0:
        return False
    if not is_name(room) or not is_deeds(deeds):
        return False
    if not is_name(giver) or not is_name(holder) or giver == holder:
        return False
    if not is_span(since, until) or not is_between(passes, 0, MOST_PASSES):
        return False
    return under is None or is_between(under, 0, number - 1)


def lies_within(leave, other):
    """Whether a leave lies within another one, so that it may be given under it."""
    return (
        other[ROOM] == leave[ROOM]
        and all(deed in other[DEEDS] for deed in leave[DEEDS])
        and other[SINCE] <= leave[SINCE]
        and other[UNTIL] >= leave[UNTIL]
        and other[PASSES] > leave[PASSES]
        and other[HOLDER] == leave[GIVER]
    )


def show_rooms(rooms):
    """Rooms as a text, a row for each, by names."""
    return "".join([_show_room(name, rooms[name]) + "\n" for name in sorted(rooms)])


def _show_room(name, held):
    """The row of one room, without its end."""
    return _show_pairs(ROOM_WORDS, (name, *held))


def _show_pairs(words, parts):
    """Words and parts, one behind the other in turn."""
    return " ".join([f"{word} {part}" for word, part in zip(words, parts)])


def _read_pairs(words, row):
    """The parts of a row that stand behind the words, or None."""
    found = row.split(" ")
    if len(found) != 2 * len(words) or found[::2] != list(words):
        return None
    return found[1::2]


def read_rooms(text):
    """The rooms that a text tells, or NoText."""
    rows, ended = split_rows(text)
    rooms = {}
    last = ""
    for number, row in enumerate(rows, start=1):
        room = _read_room(row)
        if room is None or number > MOST_ROOMS or room[0] <= last:
            raise NoText(number)
        last, held = room
        rooms[last] = held
    if not ended or len(rooms) == 0:
        raise NoText(len(rows) + 1)
    return rooms


def _read_room(row):
    """The name of a room and what it holds, or None."""
    parts = _read_pairs(ROOM_WORDS, row)
    if parts is None:
        return None
    name, owner, worth = parts
    held = (owner, read_whole(worth))
    return (name, held) if is_rooms({name: held}) else None


def show_leave(leave):
    """A leave as a text of one row, without an end."""
    number, room, deeds, giver, holder, since, until, passes, under = leave
    told_under = "none" if under is None else under
    parts = (number, room, show_deeds(deeds), giver, holder, since, until, passes, told_under)
    return _show_pairs(LEAVE_WORDS, parts)


def read_leave(text):
    """The leave that a text tells, or NoText."""
    parts = _read_pairs(LEAVE_WORDS, text)
    if parts is None:
        raise NoText(1)
    number, room, deeds, giver, holder, since, until, passes, under = parts
    leave = (
        read_figures(number),
        room,
        read_deeds(deeds),
        giver,
        holder,
        read_figures(since),
        read_figures(until),
        read_figures(passes),
        read_figures(under),
    )
    # A word that is no number reads as none, too, so the text is compared.
    if not is_leave(leave) or show_leave(leave) != text:
        raise NoText(1)
    return leave
