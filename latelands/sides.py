"""Whether two codes are handed the same on every way."""

from latelands.beside import beside
from latelands.images import change_at_end
from latelands.joints import joints_of
from latelands.levels import Levels


def same(code, other, *, rows=None, starts=None):
    """Whether the other is beside the code, with a table that shows it or a way that shows that it is not."""
    side = beside(code, other, rows, starts)
    joints = joints_of(side)
    stray = first_fault(side, {last: side.strays_behind(last) for last in side.lasts()})
    if stray is not None:
        return ("strays",) + stray
    lack = first_fault(side, {last: side.lacks_behind(last) for last in side.lasts()})
    if lack is not None:
        return ("lacks",) + lack
    pairs = joints.closed(joints.sources())
    if pairs is not None:
        return "same", joints.told(pairs)
    way = way_that_differs(joints)
    return "differs", way, change_at_end(side, way)


def first_fault(side, faults):
    """A shortest way behind the last row of which there are faults, and the first of these, or None.

    Faults is a dict from the last rows of ways, None for the empty way, to the lists of their faults.
    """
    found = [(way_to_last(side, last), faults[last][0]) for last in faults if len(faults[last]) > 0]
    return min(found, key=lambda each: (len(each[0]), each[0]), default=None)


def way_to_last(side, last):
    """The least of the shortest ways with this last row, the empty way for None."""
    return () if last is None else side.way_with[last]


def way_that_differs(joints):
    """A shortest way of the other of which the last row reads another value than its image; there must be one."""
    levels = Levels(joints)
    found = [(levels.rows_to(pair), pair) for pair in joints.sources()]
    pair = min([each for each in found if each[0] is not None])[1]
    trail = levels.trail_to(pair)
    return joints.way_along(trail) + (joints.spots[trail[-1]][1][-1],)
