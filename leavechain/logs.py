"""Logs: their bare rows, from which all whys are told again."""

from leavechain.diary import opened_diary
from leavechain.errors import NoLog
from leavechain.leaves import DEEDS
from leavechain.leaves import HOLDER
from leavechain.leaves import ROOM
from leavechain.leaves import UNDER
from leavechain.leaves import is_leave
from leavechain.words import is_deeds
from leavechain.words import is_moment
from leavechain.words import is_name
from leavechain.words import is_whole
from leavechain.words import is_worth

# What stands in a bare row behind its word, its moment and its actor.
ROW_FORMS = {
    "look": ("NAME", "WORTH"),
    "set": ("NAME", "WORTH"),
    "gave": ("LEAVE",),
    "took": ("WORTH",),
    "miss": ("MISSED",),
}
# What stands in what is missed behind its word.
MISSED_FORMS = {
    "look": ("NAME",),
    "set": ("NAME",),
    "give": ("DEEDS", "NAME", "NAME", "WORTH", "WORTH", "WORTH"),
    "take": ("WORTH",),
}


def bare(log):
    """The rows of a log without their whys, over rows out."""
    return [row[:-1] for row in log if row[0] != "over"]


def told_log(rooms, bare_log, moment):
    """The log up to a moment, told again from the rooms and its bare rows, or NoLog."""
    diary = opened_diary(rooms)
    last = -1
    for number, row in enumerate(bare_log):
        if not _is_bare_row(row) or not last < row[1] < moment:
            raise NoLog(number)
        last = row[1]
        diary.reach(last)
        # A row that can not be comes out as another one, as a miss or as a deed.
        if _do_again(diary, row)[:-1] != row:
            raise NoLog(number)
    diary.reach(moment)
    return diary.rows()


def log_holds(rooms, log, moment):
    """Whether anything is just the log that is told again from its own bare rows."""
    if not isinstance(log, list) or not all([_has_word(row) for row in log]):
        return False
    try:
        told = told_log(rooms, bare(log), moment)
    except NoLog:
        return False
    return _is_same(tuple(told), tuple(log))


def _has_word(thing):
    """Whether anything is a tuple with a text ahead."""
    return isinstance(thing, tuple) and len(thing) > 0 and isinstance(thing[0], str)


def _is_same(told, thing):
    """Whether anything is just what is told: to Python truths and numbers may be equal."""
    if isinstance(told, tuple):
        if not isinstance(thing, tuple) or len(told) != len(thing):
            return False
        return all([_is_same(part, other) for part, other in zip(told, thing)])
    if told is None:
        return thing is None
    if is_whole(told):
        return is_whole(thing) and told == thing
    return isinstance(thing, str) and told == thing


def _is_bare_row(thing):
    """Whether anything is a bare row by its form."""
    if not _has_word(thing) or len(thing) < 3:
        return False
    word, moment, actor, *parts = thing
    if word not in ROW_FORMS or not is_moment(moment) or not is_name(actor):
        return False
    return _are_parts(ROW_FORMS[word], parts)


def _are_parts(form, parts):
    """Whether things of any kind are those that a form tells."""
    if len(form) != len(parts):
        return False
    return all([_is_part(kind, part) for kind, part in zip(form, parts)])


def _is_part(kind, thing):
    """Whether anything is a part of this kind."""
    if kind == "NAME":
        return is_name(thing)
    if kind == "WORTH":
        return is_worth(thing)
    if kind == "DEEDS":
        return is_deeds(thing)
    if kind == "LEAVE":
        return is_leave(thing)
    return _is_missed(thing)


def _is_missed(thing):
    """Whether anything is what can be missed, by its form."""
    if not _has_word(thing) or thing[0] not in MISSED_FORMS:
        return False
    return _are_parts(MISSED_FORMS[thing[0]], thing[1:])


def _do_again(diary, row):
    """Do, or try, what a bare row tells; tell the row that the diary writes of it."""
    word, _, actor, *parts = row
    if word == "look":
        return diary.look(actor, parts[0])
    if word == "set":
        return diary.change(actor, *parts)
    if word == "gave":
        leave = parts[0]
        behind = leave[HOLDER:UNDER]
        return diary.grant(actor, leave[DEEDS], leave[ROOM], *behind)
    if word == "took":
        return diary.take(actor, parts[0])
    return _try_again(diary, actor, parts[0])


def _try_again(diary, actor, what):
    """Try what an actor has missed; tell the row that the diary writes of it."""
    word, *parts = what
    if word == "look":
        return diary.look(actor, parts[0])
    if word == "set":
        # Whatever the worth was to be: it is not set, or the log is refused.
        return diary.change(actor, parts[0], 0)
    if word == "give":
        return diary.grant(actor, *parts)
    return diary.take(actor, parts[0])
