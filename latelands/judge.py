"""Which breaks change something: differences, what is heard, and which gaps are harmless together."""

from latelands.atlas import atlas_of
from latelands.checks import check_gaps
from latelands.errors import InvalidBreaks, NoName
from latelands.hearing import hearing_of
from latelands.landings import refuse_clash
from latelands.levels import levels_of
from latelands.marks import gaps_that_are_bad, least_of, pairs_that_are_bad
from latelands.patterns import ages_that_make, differences_in, made_at, made_of, place_in, writes_at, wrong_age
from latelands.values import first_change
from latelands.ways import check_point


def differences(code, point, ages):
    """The ascending tuple of the differences (r, k, j) that a pattern makes at a point."""
    refuse_clash(code)
    check_point(code, point)
    wrong = wrong_age(code, point, ages)
    if wrong is not None:
        raise InvalidBreaks(wrong)
    return tuple(sorted(differences_in(writes_at(code, point), ages)))


def heard(code, point, name):
    """A shortest tuple of rows that shows that a register is heard at a point, or None."""
    refuse_clash(code)
    check_point(code, point)
    if name not in code.registers:
        raise NoName(name)
    hearing = hearing_of(code)
    place = (atlas_of(code).spot_of[point], name)
    return hearing.rows_from(place) if place in hearing.counts else None


def judge(code, *gaps):
    """Whether these gaps are together harmless, with a paper that shows it."""
    refuse_clash(code)
    check_gaps(code, gaps)
    least = least_of(code)
    # Of the shortest ways one with a single break comes first.
    bad = [(least[some][0], len(some), least[some][1], some) for some in made_at(code, gaps) if some in least]
    if len(bad) == 0:
        return harmless_paper(code, gaps)
    _, _, pair, some = min(bad)
    return change_paper(code, some, pair)


def change_paper(code, some, pair):
    """The paper for a shortest way on which breaks at these gaps make a difference of unlike values."""
    ahead = levels_of(code).way_to(code, pair)
    way = ahead + hearing_of(code).rows_from(place_in(code, pair))
    breaks = tuple(sorted([len(ahead) - age for age in ages_that_make(code, some, pair)]))
    return "changes", way, breaks, first_change(code, way, breaks)


def harmless_paper(code, gaps):
    """The tables that show that these gaps, which are harmless, are so."""
    made = made_of(code)
    places = {pair: place_in(code, pair) for some in made_at(code, gaps) for pair in made[some]}
    atlas = atlas_of(code)
    hearing = hearing_of(code)
    pairs = [pair for pair in places if places[pair] in hearing.counts]
    quiets = hearing.quiets([places[pair] for pair in places if places[pair] not in hearing.counts])
    return "open", atlas.told(atlas.closed(pairs)), quiets


def bad_gaps(code):
    """The ascending tuple of the bad gaps."""
    refuse_clash(code)
    return gaps_that_are_bad(code)


def bad_pairs(code):
    """The ascending tuple of the bad pairs (g, h), g <= h."""
    refuse_clash(code)
    return pairs_that_are_bad(code)
