"""Numbers of the registers to which the webs of a code are given."""

from latelands.checks import within
from latelands.weaving import weaving_of


def first_never(code):
    """The pair (i, point) of the first web that conflicts with itself, and the first point, or None."""
    conflicts = weaving_of(code).conflicts
    return min([(low, conflicts[(low, high)]) for low, high in conflicts if low == high], default=None)


def apart_in(code):
    """A dict from each web to the dict of the webs that conflict with it."""
    weaving = weaving_of(code)
    apart = {web: {} for web in range(len(weaving.webs))}
    for low, high in weaving.conflicts:
        apart[low][high] = True
        apart[high][low] = True
    return apart


def wrong_place(code, value, names):
    """The index of the first web whose number in any value is not right, with so many numbers, or None."""
    if not isinstance(value, tuple):
        return 0
    apart = apart_in(code)
    least = min(len(value), len(apart))
    used = 0
    for web in range(least):
        if web in apart[web] or not within(value[web], 0, min(used, names - 1)):
            return web
        if value[web] in [value[other] for other in apart[web] if other < web]:
            return web
        used = max(used, value[web] + 1)
    return None if len(value) == len(apart) else least
