"""Programs: texts that are read to steps, and steps that are written as texts."""

from leavechain.errors import NoText
from leavechain.rows import is_step
from leavechain.rows import read_row
from leavechain.rows import show_row
from leavechain.words import is_between
from leavechain.words import split_rows

MOST_STEPS = 40
DEEPEST = 6
# How far rows within a when stand in, as they are written.
MARGIN = "  "


def read_program(text):
    """The steps of a program's text, or NoText."""
    rows = _read_rows(text)
    # Counted ahead of being laid out: times within times may come to very many.
    if not 1 <= _count_steps(rows) <= MOST_STEPS:
        raise NoText(0)
    items, _ = _read_items(rows, 0)
    return tuple(_number_items(items, 0, _count_items(items)))


def _read_rows(text):
    """What the rows of a text tell, each right where it stands, or NoText."""
    lines, ended = split_rows(text)
    rows = []
    within = []
    for number, line in enumerate(lines, start=1):
        row = read_row(line)
        if row is None or not _enters(row[0], within):
            raise NoText(number)
        rows.append(row)
    if not ended or len(within) > 0:
        raise NoText(len(lines) + 1)
    return rows


def _enters(word, within):
    """Whether a row may stand within these whens and times, then changed to those behind it."""
    if word in ("when", "times"):
        within.append(word)
        return len(within) <= DEEPEST
    if word == "else":
        if len(within) == 0 or within[-1] != "when":
            return False
        within[-1] = "else"
    if word == "end":
        if len(within) == 0:
            return False
        within.pop()
    return True


def _count_steps(rows):
    """How many steps right rows have when their times are laid out."""
    many = 0
    times = [1]
    for row in rows:
        if row[0] == "times":
            times.append(times[-1] * row[1])
        elif row[0] == "end":
            times.pop()
        elif row[0] != "else":
            many += times[-1]
            if row[0] == "when":
                times.append(times[-1])
    return many


def _read_items(rows, at):
    """The items from a row on to an else or an end, and where that stands.

    An item is a step with its branches: the two lists of items of a when, or none.
    """
    items = []
    while at < len(rows) and rows[at][0] not in ("else", "end"):
        row = rows[at]
        at += 1
        if row[0] == "times":
            inner, at = _read_items(rows, at)
            items.extend(inner * row[1])
            at += 1
        elif row[0] == "when":
            branches, at = _read_branches(rows, at)
            items.append((row, branches))
        else:
            items.append((row, ()))
    return items, at


def _read_branches(rows, at):
    """The two branches of a when from the row behind it on, and where its end has been."""
    unlike_zero, at = _read_items(rows, at)
    zero = []
    if rows[at][0] == "else":
        zero, at = _read_items(rows, at + 1)
    return (unlike_zero, zero), at + 1


def _count_items(items):
    """How many steps the items have, with those of their branches."""
    many = 0
    for _, branches in items:
        many += 1
        for branch in branches:
            many += _count_items(branch)
    return many


def _number_items(items, first, behind):
    """The steps of items that begin at a number, behind which another one comes."""
    end = first + _count_items(items)
    steps = []
    for step, branches in items:
        at = first + len(steps) + 1
        after = at + sum([_count_items(branch) for branch in branches])
        follow = behind if after == end else after
        if len(branches) == 0:
            steps.append((step, follow))
            continue
        unlike_zero, zero = branches
        split = at + _count_items(unlike_zero)
        follows = (at if unlike_zero else follow, split if zero else follow)
        steps.append((step, follows))
        steps.extend(_number_items(unlike_zero, at, follow))
        steps.extend(_number_items(zero, split, follow))
    return steps


def show_program(steps):
    """Steps that were read, as a text that reads to them."""
    return "".join([row + "\n" for row in _show_steps(steps, 0, len(steps))])


def _show_steps(steps, at, end):
    """The rows of the steps from a number up to another one."""
    rows = []
    while at < end:
        step, follow = steps[at]
        rows.append(show_row(step))
        at += 1
        if step[0] == "when":
            split, after = _branch_ends(steps, end, follow)
            rows.extend([MARGIN + row for row in _show_steps(steps, at, split)])
            if split < after:
                rows.append("else")
                rows.extend([MARGIN + row for row in _show_steps(steps, split, after)])
            rows.append("end")
            at = after
    return rows


def _branch_ends(steps, end, follow):
    """Where the branch for unlike 0 of a when ends, and where the one for 0 behind it."""
    zero = follow[1]
    if zero > end:
        return end, end
    # The step ahead of the branch for 0 goes on behind both of them: it is the
    # last one of the other branch, or the when itself where that has none.
    behind = steps[zero - 1][1]
    if steps[zero - 1][0][0] == "when":
        behind = behind[0]
    return zero, min(behind, end)


def is_steps(thing):
    """Whether anything is the steps of a program."""
    if not isinstance(thing, tuple) or not 1 <= len(thing) <= MOST_STEPS:
        return False
    return all([_is_placed(row, number, len(thing)) for number, row in enumerate(thing)])


def _is_placed(thing, number, end):
    """Whether anything is a step of that number with what comes then."""
    if not isinstance(thing, tuple) or len(thing) != 2:
        return False
    step, follow = thing
    if not is_step(step):
        return False
    if step[0] != "when":
        return is_between(follow, number + 1, end)
    if not isinstance(follow, tuple) or len(follow) != 2:
        return False
    return all(is_between(told, number + 1, end) for told in follow)


def most_steps(steps):
    """How many steps the longest way through the steps has."""
    longest = [0] * (len(steps) + 1)
    for number in reversed(range(len(steps))):
        step, follow = steps[number]
        if step[0] == "when":
            longest[number] = 1 + max(longest[follow[0]], longest[follow[1]])
        else:
            longest[number] = 1 + longest[follow]
    return longest[0]
