"""Which breaks change something, and on which ways first, for a whole code."""

from latelands.hearing import hearing_of
from latelands.levels import levels_of
from latelands.patterns import made_of, place_in


def least_of(code):
    """Where breaks change something, for a code that has neither too many points nor a clash.

    A dict from gaps, one or two, ascending, a break at each of which changes something on some way,
    to the least (rows, pair): the rows of a shortest way on which a pattern with these gaps does, and
    the pair of a difference that it makes, as latelands.patterns tells it.
    """
    if "least" not in code.memo:
        code.memo["least"] = least_by_gaps(code, made_of(code))
    return code.memo["least"]


def least_by_gaps(code, made):
    """The same, found anew from all differences."""
    pairs = {pair: True for gaps in made for pair in made[gaps]}
    rows = {pair: rows_to_change(code, pair) for pair in pairs}
    least = {}
    for gaps in made:
        found = [(rows[pair], pair) for pair in made[gaps] if rows[pair] is not None]
        if len(found) > 0:
            least[gaps] = min(found)
    return least


def rows_to_change(code, pair):
    """The rows of a shortest way on which the difference of a pair changes something, or None."""
    behind = hearing_of(code).counts.get(place_in(code, pair))
    if behind is None:
        return None
    ahead = levels_of(code).rows_to(pair)
    return None if ahead is None else ahead + behind


def gaps_that_are_bad(code):
    """The ascending tuple of the bad gaps."""
    return tuple(sorted([gaps[0] for gaps in least_of(code) if len(gaps) == 1]))


def pairs_that_are_bad(code):
    """The ascending tuple of the bad pairs."""
    bad = gaps_that_are_bad(code)
    return tuple(sorted([gaps for gaps in least_of(code)
                         if len(gaps) == 2 and gaps[0] not in bad and gaps[1] not in bad]))
