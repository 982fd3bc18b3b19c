"""Checks of what judge tells. They search nothing."""

from latelands.atlas import atlas_of
from latelands.checks import are_integers, check_gaps
from latelands.landings import refuse_clash, wrong_break
from latelands.patterns import made_at, made_of, place_in
from latelands.tables import alikes_for, quiets_for
from latelands.values import first_change
from latelands.ways import is_way


def shows_change(code, gaps, paper):
    """Whether any value is a paper which shows that breaks at these gaps change something."""
    refuse_clash(code)
    check_gaps(code, gaps)
    if not isinstance(paper, tuple) or len(paper) != 4 or paper[0] != "changes":
        return False
    _, way, breaks, change = paper
    if not is_way(code, way) or not are_some_breaks(code, way, breaks):
        return False
    if not all([way[moment] in gaps for moment in breaks]):
        return False
    return are_integers(change) and change == first_change(code, way, breaks)


def are_some_breaks(code, way, value):
    """Whether any value is a tuple of one or two breaks of a way."""
    return isinstance(value, tuple) and 1 <= len(value) <= 2 and wrong_break(code, way, value) is None


def shows_open(code, gaps, paper):
    """Whether any value is a paper which shows that these gaps are together harmless."""
    refuse_clash(code)
    check_gaps(code, gaps)
    if not isinstance(paper, tuple) or len(paper) != 3 or paper[0] != "open":
        return False
    atlas = atlas_of(code)
    alikes = alikes_for(atlas, paper[1])
    quiets = quiets_for(code, atlas, paper[2])
    if alikes is None or quiets is None:
        return False
    made = made_of(code)
    return all([pair in alikes or place_in(code, pair) in quiets
                for some in made_at(code, gaps) for pair in made[some]])
