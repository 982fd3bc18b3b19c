"""Mended codes: all their gaps that are not held are together harmless."""

from latelands.checks import within
from latelands.codes import Code
from latelands.errors import InvalidLimit, TooMany
from latelands.landings import refuse_clash
from latelands.opening import MOST_TIMES, opened
from latelands.places import first_never
from latelands.registers import fewest, rename

NAMES = ("a", "b", "c", "d", "e", "f", "g", "h")


def mended(code, *, most=4):
    """The code, opened as few times as can be, with fewest registers, or why no times up to most are enough."""
    refuse_clash(code)
    if not within(most, 1, MOST_TIMES):
        raise InvalidLimit(most)
    nevers = []
    for times in range(1, most + 1):
        wide, stands = opened(code, times)
        refuse_clash(wide)
        never = first_never(wide)
        if never is None:
            return ("mended", times) + renamed_as_few(wide, stands)
        nevers.append(never)
    return "never", tuple(nevers)


def renamed_as_few(code, stands):
    """A code with as few registers as possible, with rows and starts that lead where those of stands do."""
    places = fewest(code)[1]
    many = max(places, default=-1) + 1
    if many > Code.MOST_REGISTERS:
        raise TooMany(Code.MOST_REGISTERS)
    renamed, rows, starts = rename(code, places, NAMES[:many])
    return renamed, tuple([None if row is None else stands[row] for row in rows]), starts
