"""The rows of programs by themselves: their forms, and what is reckoned in them."""

from leavechain.words import MOST_FIGURES
from leavechain.words import is_between
from leavechain.words import is_deeds
from leavechain.words import is_name
from leavechain.words import read_deeds
from leavechain.words import read_figures
from leavechain.words import show_deeds

SIGNS = ("+", "-", "*", "<", "=")
BARE_THINGS = ("now", "missed")
TIMES = ("1", "2", "3", "4", "5")

# What stands behind the first word of each step's row: words, and in large
# letters the parts that the step tells.
STEP_FORMS = {
    "look": ("NAME", "as", "LOCAL"),
    "set": ("NAME", "to", "RECKONED"),
    "give": (
        "DEEDS", "on", "NAME", "to", "NAME", "since", "RECKONED",
        "until", "RECKONED", "passes", "RECKONED", "as", "LOCAL",
    ),
    "take": ("RECKONED",),
    "let": ("LOCAL", "be", "RECKONED"),
    "rest": (),
    "when": ("RECKONED",),
}
# The same of the rows that are no steps.
OTHER_FORMS = {"times": ("MANY",), "else": (), "end": ()}

# The words of all these rows, which are no locals.
ROW_WORDS = (
    "look", "set", "as", "to", "give", "on", "since", "until", "passes", "take",
    "let", "be", "rest", "when", "else", "end", "times", "now", "missed",
)


def is_local(thing):
    """Whether anything is the name of a local."""
    return is_name(thing) and thing not in ROW_WORDS


def is_step(thing):
    """Whether anything is a step, without the number of what comes then."""
    if not isinstance(thing, tuple) or len(thing) == 0:
        return False
    if not isinstance(thing[0], str) or thing[0] not in STEP_FORMS:
        return False
    parts = [part for part in STEP_FORMS[thing[0]] if part.isupper()]
    if len(thing) != 1 + len(parts):
        return False
    return all([_is_part(part, told) for part, told in zip(parts, thing[1:])])


def _is_part(part, thing):
    """Whether anything is what a step tells as this part."""
    if part == "NAME":
        return is_name(thing)
    if part == "LOCAL":
        return is_local(thing)
    if part == "DEEDS":
        return is_deeds(thing)
    return _is_reckoned(thing)


def _is_reckoned(thing):
    """Whether anything is what can be reckoned."""
    if not isinstance(thing, tuple) or len(thing) != 3:
        return _is_thing(thing)
    sign, left, right = thing
    return isinstance(sign, str) and sign in SIGNS and _is_thing(left) and _is_thing(right)


def _is_thing(thing):
    """Whether anything is a number, a local, now or missed."""
    if not isinstance(thing, tuple) or len(thing) not in (1, 2):
        return False
    if not isinstance(thing[0], str):
        return False
    if len(thing) == 1:
        return thing[0] in BARE_THINGS
    kind, told = thing
    if kind == "num":
        return is_between(told, 0, MOST_FIGURES)
    return kind == "local" and is_local(told)


def read_row(row):
    """What a row of a program tells, its first word and its parts, or None."""
    words = row.lstrip(" ").split(" ")
    form = STEP_FORMS.get(words[0], OTHER_FORMS.get(words[0]))
    if form is None:
        return None
    told = [words[0]]
    at = 1
    for part in form:
        width = _width(part, words[at:])
        found = _read_part(part, words[at:at + width])
        if found is None:
            return None
        if part.isupper():
            told.append(found)
        at += width
    return tuple(told) if at == len(words) else None


def _width(part, words):
    """How many of the words a part takes."""
    if part == "RECKONED" and len(words) > 2 and words[1] in SIGNS:
        return 3
    return 1


def _read_part(part, words):
    """What the words tell as this part, or None."""
    if part == "RECKONED":
        return _read_reckoned(words)
    word = " ".join(words)
    if part == "NAME":
        return word if is_name(word) else None
    if part == "LOCAL":
        return word if is_local(word) else None
    if part == "DEEDS":
        return read_deeds(word)
    if part == "MANY":
        return int(word) if word in TIMES else None
    return word if word == part else None


def _read_reckoned(words):
    """What one word, or two with a sign between, tell to reckon, or None."""
    things = [_read_thing(word) for word in words[::2]]
    if len(things) == 0 or None in things:
        return None
    if len(things) == 1:
        return things[0]
    return (words[1], things[0], things[1])


def _read_thing(word):
    """The thing that a word tells, or None."""
    if word in BARE_THINGS:
        return (word,)
    if is_local(word):
        return ("local", word)
    number = read_figures(word)
    if not is_between(number, 0, MOST_FIGURES):
        return None
    return ("num", number)


def show_row(step):
    """The row of a step, without its end."""
    words = [step[0]]
    at = 1
    for part in STEP_FORMS[step[0]]:
        if part.isupper():
            words.append(_show_part(part, step[at]))
            at += 1
        else:
            words.append(part)
    return " ".join(words)


def _show_part(part, told):
    """A part of a step as it stands in the row."""
    if part == "DEEDS":
        return show_deeds(told)
    if part == "RECKONED":
        return _show_reckoned(told)
    return told


def _show_reckoned(told):
    """What is reckoned, as it stands in a row."""
    if len(told) != 3:
        return _show_thing(told)
    sign, left, right = told
    return f"{_show_thing(left)} {sign} {_show_thing(right)}"


def _show_thing(thing):
    """A number, a local, now or missed as a word."""
    return f"{thing[-1]}"
