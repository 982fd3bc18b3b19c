"""Opened codes: copies of the rows of a code behind one another."""

from latelands.checks import within
from latelands.codes import Code
from latelands.errors import InvalidLimit, TooMany
from latelands.shape import jump_of

MOST_TIMES = 8


def opened(code, times):
    """The code opened so many times, and the tuple of the rows for which its rows stand."""
    if not within(times, 1, MOST_TIMES):
        raise InvalidLimit(times)
    if times == 1 or not has_jump(code):
        return code, tuple(range(len(code)))
    late = code.machine.late
    # The rows of a copy, and those that stand behind each copy but the last one.
    apart = len(code) + 1 + late
    end = times * apart - 1 - late
    if end > Code.MOST_ROWS:
        raise TooMany(Code.MOST_ROWS)
    rows = []
    stands = []
    for turn in range(times):
        if turn > 0:
            rows.extend([leaving_row(code, end)] + [()] * late)
            stands.extend([None] * (1 + late))
        next_copy = (turn + 1) % times
        rows.extend([row_in_copy(code, row, turn * apart, next_copy * apart, end) for row in range(len(code))])
        stands.extend(list(range(len(code))))
    return Code(code.machine, *rows, alike=code.alike), tuple(stands)


def has_jump(code):
    return any([jump_of(row) is not None for row in code.rows])


def leaving_row(code, end):
    """The row with a jump to the end of all."""
    names = [kind.name for kind in code.machine.kinds if kind.family == "jump"]
    return ((names[0], None, (), end),)


def row_in_copy(code, row, first, next_first, end):
    """A row in the copy that begins with the row `first`; the next copy begins with `next_first`."""
    found = []
    for name, target, sources, goal in code.rows[row]:
        if goal is not None:
            goal = goal_in_copy(code, row, goal, first, next_first, end)
        found.append((name, target, sources, goal))
    return tuple(found)


def goal_in_copy(code, row, goal, first, next_first, end):
    """The goal in the opened code of a jump of a row."""
    if goal == len(code):
        return end
    return goal + (first if goal > row else next_first)
