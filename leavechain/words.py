"""What whole numbers, names and deeds are, and how they stand in texts."""

LAST_MOMENT = 1000000
MOST_FIGURES = 999999999
LONGEST_NAME = 8
BOTH_DEEDS = ("look", "set")
ALL_DEEDS = (("look",), ("set",), ("look", "set"))


def is_whole(thing):
    """Whether anything is an int that is no truth."""
    return isinstance(thing, int) and not isinstance(thing, bool)


def is_between(thing, least, most):
    """Whether anything is a whole number from least to most."""
    return is_whole(thing) and least <= thing <= most


def is_moment(thing):
    """Whether anything is a moment."""
    return is_between(thing, 0, LAST_MOMENT)


def is_span(since, until):
    """Whether anything and anything are the moments from which and until which something is."""
    return is_moment(since) and is_moment(until) and since < until


def is_worth(thing):
    """Whether anything is a whole number of at most nine figures."""
    return is_between(thing, -MOST_FIGURES, MOST_FIGURES)


def is_name(thing):
    """Whether anything is a name."""
    if not isinstance(thing, str) or not 1 <= len(thing) <= LONGEST_NAME:
        return False
    return all("a" <= sign <= "z" for sign in thing)


def is_deeds(thing):
    """Whether anything is a leave's deeds."""
    if not isinstance(thing, tuple) or not all(isinstance(deed, str) for deed in thing):
        return False
    return thing in ALL_DEEDS


def show_deeds(deeds):
    """Deeds as a word."""
    return "+".join(deeds)


def read_deeds(word):
    """The deeds that a word tells, or None."""
    for deeds in ALL_DEEDS:
        if show_deeds(deeds) == word:
            return deeds
    return None


def read_figures(word):
    """The number that a word of figures tells, or None."""
    if word == "" or not all("0" <= sign <= "9" for sign in word):
        return None
    if word[0] == "0" and len(word) > 1:
        return None
    return int(word)


def read_whole(word):
    """The number that figures tell, below 0 those with - ahead, or None."""
    if not word.startswith("-"):
        return read_figures(word)
    number = read_figures(word[1:])
    # There is but one way to write 0, so -0 is no number.
    if number is None or number == 0:
        return None
    return -number


def split_rows(text):
    """The rows of a text, and whether the last one has its end."""
    rows = text.split("\n")
    if rows[-1] == "":
        return rows[:-1], True
    return rows, False
