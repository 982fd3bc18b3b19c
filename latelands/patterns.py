"""Patterns of breaks at points, and the differences that they make."""

from latelands.atlas import FIRST_IN, NAMES, PAIRS, atlas_of, by_number, pair_of
from latelands.checks import within


def wrong_age(code, point, value):
    """The index of the first entry of any value that is not right in a pattern at a point, or None."""
    if not isinstance(value, tuple) or not 1 <= len(value) <= 2:
        return 0
    right = ages_at(code, point)
    for index, age in enumerate(value):
        if not within(age, 0, len(point)) or age not in right or age <= max(value[:index], default=-1):
            return index
    return None


def ages_at(code, point):
    """The ascending list of the ages that a break can have at a point."""
    return [age for age in range(len(point) - 1) if point[-1 - age] in code.gaps]


def patterns_at(code, point):
    """The list of the patterns at a point."""
    ages = ages_at(code, point)
    return [(age,) for age in ages] + [(age, other) for age in ages for other in ages if age < other]


def gaps_of(point, ages):
    """The ascending tuple of the gaps of a pattern."""
    return tuple(sorted([point[-1 - age] for age in ages]))


def writes_at(code, point):
    """A dict from the registers to the list of the writes to them in the rows of a point that were done.

    A write is told as (l, k, j): its landing, counted from now, and its row and index as in its name.
    """
    found = {}
    for back in range(1, len(point)):
        for index, name, delay, _ in code.writes[point[-1 - back]]:
            found.setdefault(name, []).append((delay - back, back, index))
    return found


def differences_in(writes, ages):
    """The list of the differences that a pattern makes, by what writes_at tells."""
    found = []
    for name in writes:
        seen = seen_in(writes[name], ages)
        if seen is not None and is_different(writes[name], seen):
            found.append((name, seen[1], seen[2]))
    return found


def seen_in(writes, ages):
    """The one of these writes to a register that a read would see now with these breaks, or None."""
    seen = None
    greatest = None
    for write in writes:
        landing, back, _ = write
        # The first break behind a write is the oldest one that is younger than it.
        oldest = max([age for age in ages if age < back], default=None)
        early = landing if oldest is None else min(landing, -oldest)
        if early <= 0 and (greatest is None or (early, landing) > greatest):
            greatest = (early, landing)
            seen = write
    return seen


def is_different(writes, seen):
    """Whether a read would not see this write without breaks, because of when the writes land."""
    return seen[0] > 0 or any([write[0] == 0 for write in writes if write != seen])


def made_of(code):
    """The differences that all patterns make at all points, for a code that has not too many points.

    A dict from the gaps of patterns, one or two, ascending, to a dict of pairs: for each difference
    (r, k, j) the names ("by", k, j) and ("in", r) at the point.
    """
    if "made" not in code.memo:
        code.memo["made"] = made_by_gaps(code)
    return code.memo["made"]


def made_by_gaps(code):
    """The same, found anew."""
    atlas = atlas_of(code)
    made = {}
    for spot, point in enumerate(atlas.spots):
        writes = writes_at(code, point)
        for ages in patterns_at(code, point):
            pairs = made.setdefault(gaps_of(point, ages), {})
            for name, back, index in differences_in(writes, ages):
                pairs[pair_of(spot, by_number(back, index), atlas.number_of[("in", name)])] = True
    return made


def made_at(code, gaps):
    """The ascending list of the gaps of all patterns at some of these gaps."""
    return sorted([some for some in made_of(code) if all([gap in gaps for gap in some])])


def place_in(code, pair):
    """The number of the point and the register of the difference for which a pair stands."""
    return pair // PAIRS, code.registers[pair % NAMES - FIRST_IN]


def ages_that_make(code, gaps, pair):
    """The first pattern at these gaps that makes the difference for which a pair stands."""
    atlas = atlas_of(code)
    spot, name = place_in(code, pair)
    _, back, index = atlas.name_of[pair // NAMES % NAMES]
    point = atlas.spots[spot]
    writes = writes_at(code, point)
    return [ages for ages in patterns_at(code, point) if gaps_of(point, ages) == gaps
            and (name, back, index) in differences_in(writes, ages)][0]
