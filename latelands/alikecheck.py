"""Checks of what alike tells. They search nothing."""

from latelands.atlas import atlas_of
from latelands.landings import refuse_clash
from latelands.naming import check_name
from latelands.tables import alikes_for
from latelands.values import value
from latelands.ways import check_point, is_way


def shows_alike(code, point, one, other, table):
    """Whether any value is a tuple of the tuples of a table of alikes that has two names at a point."""
    check_names(code, point, one, other)
    atlas = atlas_of(code)
    pairs = alikes_for(atlas, table)
    return pairs is not None and (one == other or atlas.pair(point, one, other) in pairs)


def shows_unlike(code, point, one, other, way):
    """Whether any value is a way that leads to a point and on which two names are unlike."""
    check_names(code, point, one, other)
    # What leads to a point has the rows ahead of the row to come, which is a next row of their last one.
    if not is_way(code, way) or way[-code.reach:] != point[:-1]:
        return False
    return value_of(code, way, one) != value_of(code, way, other)


def check_names(code, point, one, other):
    """Refuses what is no point, and what are no names at it."""
    refuse_clash(code)
    check_point(code, point)
    check_name(code, point, one)
    check_name(code, point, other)


def value_of(code, way, name):
    """The value of a name at a point to which a way leads."""
    if name[0] == "in":
        return value(code, way, len(way), name[1])
    _, back, index = name
    step = len(way) - back
    copied = [source for at, _, _, source in code.writes[way[step]] if at == index][0]
    return ("made", step, index) if copied is None else value(code, way, step, copied)
