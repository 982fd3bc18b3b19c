"""The names of values at the points of a code, and which of them are alike."""

from latelands.atlas import atlas_of
from latelands.errors import NoPoint
from latelands.landings import refuse_clash
from latelands.levels import is_known_unlike, levels_of
from latelands.naming import check_name, name_was, names_at, standing
from latelands.ways import check_point, following_points


def names(code, point):
    """The ascending tuple of the names at a point."""
    refuse_clash(code)
    check_point(code, point)
    return tuple(names_at(code, point))


def stands_for(code, point, name):
    """The name for which a name stands at a point."""
    refuse_clash(code)
    check_point(code, point)
    check_name(code, point, name)
    return standing(code, point, name)


def name_before(code, point, following, name):
    """What a name at the point `following` was at the point before it, None if it is new."""
    refuse_clash(code)
    check_point(code, point)
    # The test below alone would take True for 1.
    check_point(code, following)
    if following not in following_points(code, point):
        raise NoPoint(following)
    check_name(code, following, name)
    return name_was(code, following, name)


def alike(code, point, one, other):
    """A table of alikes that has two names at a point, or a shortest way on which they are unlike."""
    refuse_clash(code)
    check_point(code, point)
    check_name(code, point, one)
    check_name(code, point, other)
    if one == other:
        return "alike", ()
    atlas = atlas_of(code)
    pair = atlas.pair(point, one, other)
    pairs = None if is_known_unlike(code, pair) else atlas.closed([pair])
    if pairs is None:
        return "unlike", levels_of(code).way_to(code, pair)
    return "alike", atlas.told(pairs)


def classes(code, point):
    """The ascending tuple of the classes of names that are alike at the point, each ascending."""
    refuse_clash(code)
    check_point(code, point)
    atlas = atlas_of(code)
    found = levels_of(code).last_classes(atlas.spot_of[point])
    return tuple([tuple([atlas.name_of[name] for name in names_alike]) for names_alike in found])
