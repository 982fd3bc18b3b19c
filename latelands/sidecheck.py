"""Checks of what same tells. They search nothing."""

from latelands.atlas import ASIDE, pair_of
from latelands.beside import beside
from latelands.checks import are_integers, within
from latelands.images import change_at_end
from latelands.joints import joints_of, refuse_joints
from latelands.tables import name_for


def shows_same(code, other, table, *, rows=None, starts=None):
    """Whether the other comes to the rows to which the code comes, and any value is a table of sames for it."""
    side = beside(code, other, rows, starts)
    joints = joints_of(side)
    if not keeps_together(side) or not isinstance(table, tuple):
        return False
    found = {same_for(joints, each): True for each in table}
    if None in found:
        return False
    return (all([is_same(joints, found, pair) for pair in found])
            and all([pair in found for pair in joints.sources()]))


def keeps_together(side):
    """Whether the other leads on to the next rows in the code and to no other ones, wherever it comes."""
    return all([len(side.strays_behind(last)) == 0 and len(side.lacks_behind(last)) == 0 for last in side.lasts()])


def same_for(joints, value):
    """The pair, taken for what it stands for, that any value is as a tuple of a table of sames, or None."""
    if not isinstance(value, tuple) or len(value) != 4 or not are_integers(value[0]) or not are_integers(value[1]):
        return None
    spot = joints.spot_of.get(value[:2])
    own = name_for(joints.own, value[2])
    aside = name_for(joints.aside, value[3])
    if spot is None or own is None or aside is None:
        return None
    if own not in joints.was[spot] or aside + ASIDE not in joints.was[spot]:
        return None
    return joints.standing(pair_of(spot, own, aside + ASIDE))


def is_same(joints, table, pair):
    """Whether a pair may stand in a table of sames, by the other pairs of it."""
    earlier = joints.earlier(pair)
    return earlier is not None and all([joints.standing(each) in table for each in earlier])


def shows_apart(code, other, paper, *, rows=None, starts=None):
    """Whether any value is a paper which shows that the other is not beside the code."""
    side = beside(code, other, rows, starts)
    refuse_joints(side)
    if not isinstance(paper, tuple) or len(paper) != 3:
        return False
    word, way, told = paper
    if not side.keeps_to_code(way):
        return False
    last = way[-1] if len(way) > 0 else None
    if last is not None and side.stands[last] is None:
        return False
    if word == "strays":
        return is_one_of(told, side.strays_behind(last))
    if word == "lacks":
        return is_one_of(told, side.lacks_behind(last))
    return word == "differs" and last is not None and is_change(told, change_at_end(side, way))


def is_one_of(value, rows):
    """Whether any value is one of these rows, of which one may be None."""
    if value is None:
        return None in rows
    return within(value, 0, max([row for row in rows if row is not None], default=-1)) and value in rows


def is_change(value, change):
    """Whether any value is this change, which may be None."""
    return change is not None and are_integers(value) and value == change
