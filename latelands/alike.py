"""The names of values at the points of a code, and which of them are alike."""

from latelands.errors import NoName, NoPoint
from latelands.landings import refuse_clash
from latelands.naming import is_name_at, name_was, names_at, standing
from latelands.tracing import Tracer
from latelands.ways import check_point, following_points


def names(code, point):
    """The ascending tuple of the names at a point."""
    refuse_clash(code)
    check_point(code, point)
    return tuple(names_at(code, point))


def stands_for(code, point, name):
    """The name for which a name stands at a point."""
    refuse_clash(code)
    check_point(code, point)
    check_name(code, point, name)
    return standing(code, point, name)


def name_before(code, point, following, name):
    """What a name at the point `following` was at the point before it, None if it is new."""
    refuse_clash(code)
    check_point(code, point)
    # The test below alone would take True for 1.
    check_point(code, following)
    if following not in following_points(code, point):
        raise NoPoint(following)
    check_name(code, following, name)
    return name_was(code, following, name)


def check_name(code, point, name):
    if not is_name_at(code, point, name):
        raise NoName(name)


def alike(code, point, one, other):
    """A table of alikes that has two names at a point, or a shortest way on which they are unlike."""
    refuse_clash(code)
    check_point(code, point)
    check_name(code, point, one)
    check_name(code, point, other)
    if one == other:
        return "alike", ()
    tracer = Tracer(code)
    unlike, onward = tracer.trace((point, min(one, other), max(one, other)))
    if unlike is None:
        return "alike", tuple(sorted(list(onward)))
    return "unlike", tracer.way_on(unlike, onward)


def classes(code, point):
    """The ascending tuple of the classes of names that are alike at a point, each ascending."""
    refuse_clash(code)
    check_point(code, point)
    tracer = Tracer(code)
    firsts = []
    first_of = {}
    for name in names_at(code, point):
        first_of[name] = first_alike(tracer, point, firsts, name)
        if first_of[name] == name:
            firsts.append(name)
    return tuple([tuple([each for each in first_of if first_of[each] == first]) for first in firsts])


def first_alike(tracer, point, firsts, name):
    """The first of these lesser names that is alike with a name at the point, or the name itself."""
    for first in firsts:
        if tracer.are_alike((point, first, name)):
            return first
    return name
