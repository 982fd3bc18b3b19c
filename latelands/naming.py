"""The names of values at the points of a code, for points that are known to be right."""

from latelands.errors import NoName


def names_at(code, point):
    """The ascending list of the names at a point."""
    written = [("by", back, write[0]) for back in range(1, len(point)) for write in code.writes[point[-1 - back]]]
    return written + [("in", name) for name in code.registers]


def is_name_at(code, point, value):
    """Whether any value is a name at a point."""
    # True is equal to 1, but it is no number of steps.
    return value in names_at(code, point) and not any([isinstance(part, bool) for part in value])


def check_name(code, point, value):
    """Refuses any value that is no name at a point."""
    if not is_name_at(code, point, value):
        raise NoName(value)


def standing(code, point, name):
    """The name for which a name stands at a point."""
    if name[0] == "by":
        return name
    for back in range(1, len(point)):
        for index, target, delay, _ in code.writes[point[-1 - back]]:
            if target == name[1] and delay == back:
                return "by", back, index
    return name


def name_was(code, point, name):
    """What a name at a point was at the points before it, or None if it is new."""
    stands = standing(code, point, name)
    if stands[0] == "in":
        return stands
    _, back, index = stands
    if back > 1:
        return "by", back - 1, index
    for at, _, _, copied in code.writes[point[-2]]:
        if at == index and copied is not None:
            return "in", copied
    return None
