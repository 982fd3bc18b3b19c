"""Whether any values are tables of alikes or of quiets. Nothing is searched here."""

from latelands.atlas import pair_of
from latelands.checks import are_integers
from latelands.shape import names_read


def spot_for(atlas, value):
    """The number of the point that any value is, or None."""
    return atlas.spot_of.get(value) if are_integers(value) else None


def name_for(atlas, value):
    """The number of the name of the code that any value is, or None."""
    if not isinstance(value, tuple) or not 2 <= len(value) <= 3:
        return None
    # True would be taken for 1, and a list or dict cannot be looked up.
    if not isinstance(value[0], str) or not (isinstance(value[1], str) or are_integers(value[1:])):
        return None
    return atlas.number_of.get(value) if are_integers(value[2:]) else None


def pair_for(atlas, value):
    """The pair that any value is as a tuple (point, one, other), one less than other, or None."""
    if not isinstance(value, tuple) or len(value) != 3:
        return None
    spot = spot_for(atlas, value[0])
    one = name_for(atlas, value[1])
    other = name_for(atlas, value[2])
    if spot is None or one is None or other is None:
        return None
    if one not in atlas.was[spot] or other not in atlas.was[spot] or one >= other:
        return None
    return pair_of(spot, one, other)


def alikes_for(atlas, value):
    """The dict of the pairs of the table of alikes that any value is as a tuple of its tuples, or None."""
    if not isinstance(value, tuple):
        return None
    found = {pair_for(atlas, each): True for each in value}
    if None in found:
        return None
    if not all([holds(atlas, found, pair) for pair in found]):
        return None
    return found


def holds(atlas, table, pair):
    """Whether a pair may stand in a table of alikes, by the other pairs of it."""
    earlier = atlas.earlier(pair)
    return earlier is not None and all([each in table for each in earlier])


def quiets_for(code, atlas, value):
    """The dict of the pairs (number of the point, register) of the table of quiets that any value is, or None."""
    if not isinstance(value, tuple):
        return None
    found = {quiet_for(code, atlas, each): True for each in value}
    if None in found:
        return None
    if not all([is_quiet(code, atlas, found, spot, name) for spot, name in found]):
        return None
    return found


def quiet_for(code, atlas, value):
    """The pair (number of the point, register) that any value is as a tuple (point, register), or None."""
    if not isinstance(value, tuple) or len(value) != 2:
        return None
    spot = spot_for(atlas, value[0])
    if spot is None or value[1] not in code.registers:
        return None
    return spot, value[1]


def is_quiet(code, atlas, table, spot, name):
    """Whether a pair may stand in a table of quiets, by the other pairs of it."""
    row = atlas.spots[spot][-1]
    if row < len(code) and name in names_read(code.rows[row]):
        return False
    return all([name in atlas.landing[later] or (later, name) in table for later in atlas.after[spot]])
