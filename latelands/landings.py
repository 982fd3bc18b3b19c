"""When the writes of a way land, and what reads see of them."""

from latelands.checks import within
from latelands.errors import Clash, InvalidBreaks, InvalidWay, NoName, NoStep, TooMany
from latelands.ways import MOST_POINTS, count_points, walks, wrong_entry


def landings(code, way, breaks=()):
    """The ascending tuple of the (e, l, step, index, register) of all writes of the way."""
    check_played(code, way, breaks)
    return tuple(sorted(landed(code, way, breaks)))


def writer(code, way, step, name, breaks=()):
    """The pair (step, index) of the write that a read sees at this step, or None for the entry."""
    check_played(code, way, breaks)
    if not within(step, 0, len(way)):
        raise NoStep(step)
    if name not in code.registers:
        raise NoName(name)
    seen = max([landing[:4] for landing in landed(code, way, breaks)
                if landing[0] <= step and landing[4] == name], default=None)
    return None if seen is None else seen[2:]


def check_played(code, way, breaks):
    """Refuses what is no way, then what are no breaks of it."""
    wrong = wrong_entry(code, way)
    if wrong is not None:
        raise InvalidWay(wrong)
    wrong = wrong_break(code, way, breaks)
    if wrong is not None:
        raise InvalidBreaks(wrong)


def wrong_break(code, way, breaks):
    """The index of the first entry that cannot stand there in breaks of the way, or None."""
    if not isinstance(breaks, (list, tuple)):
        return 0
    before = 0
    for index, moment in enumerate(breaks):
        if not within(moment, before + 1, len(way) - 1) or way[moment] in code.held:
            return index
        before = moment
    return None


def landed(code, way, breaks):
    """The list of what landings tells, in the order in which the writes are done."""
    found = []
    coming = 0
    for step, row in enumerate(way):
        while coming < len(breaks) and breaks[coming] <= step:
            coming = coming + 1
        for index, name, delay, _ in code.writes[row]:
            landing = step + delay
            early = min(landing, breaks[coming]) if coming < len(breaks) else landing
            found.append((early, landing, step, index, name))
    return found


def clash(code):
    """None, or a shortest way with a clash and the least register to which it happens there."""
    if count_points(code) > MOST_POINTS:
        raise TooMany(MOST_POINTS)
    if "clash" not in code.memo:
        code.memo["clash"] = found_clash(code)
    return code.memo["clash"]


def found_clash(code):
    """The same, for a code with few enough points."""
    found = clashing_ways(code)
    if len(found) == 0:
        return None
    way = min(found, key=lambda each: (len(each), each))
    return way, min(clashing_names(code, way))


def refuse_clash(code):
    """Refuses a code with too many points, then one with a clash, ahead of all other errors."""
    found = clash(code)
    if found is not None:
        raise Clash(found[0], found[1])


def clashing_ways(code):
    """Ways whose last row has a write that lands together with one of an earlier row.

    For each two rows of which this can be said, and each number of steps from one to the other,
    there is one that comes to the earlier row as soon as can be.
    """
    everywhere = {(name, delay): True for row in code.writes for _, name, delay, _ in row}
    found = []
    for first in [row for row in range(len(code)) if row in code.reached]:
        for steps in range(1, code.reach):
            # What a write so many steps later must be to land together with one of this row.
            together = [(name, delay - steps) for _, name, delay, _ in code.writes[first]]
            wanted = [write for write in together if write in everywhere]
            if len(wanted) > 0:
                found.extend([code.reached[first] + walk[1:] for walk in walks(code, first, steps)
                              if writes_one_of(code, walk[-1], wanted)])
    return found


def writes_one_of(code, row, wanted):
    """Whether a row, or the end, has a write with one of these registers and delays."""
    if row == len(code):
        return False
    return any([(name, delay) in wanted for _, name, delay, _ in code.writes[row]])


def clashing_names(code, way):
    """The registers to which two writes of the way have one landing."""
    landing_places = [(landing, name) for _, landing, _, _, name in landed(code, way, ())]
    return [name for place, name in landing_places if landing_places.count((place, name)) > 1]
