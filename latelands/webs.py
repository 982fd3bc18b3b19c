"""Which writers reads see, and the webs of writers that must have one register."""

from latelands.checks import within
from latelands.errors import NoName, NoRow, NoStep
from latelands.landings import check_played, refuse_clash
from latelands.shape import names_read
from latelands.weaving import weaving_of


def seen(code, row, name):
    """The ascending tuple of the writers that a read of the register in this row sees."""
    refuse_clash(code)
    if not within(row, 0, len(code) - 1):
        raise NoRow(row)
    if name not in code.registers:
        raise NoName(name)
    return weaving_of(code).seen.get((row, name), ())


def webs(code):
    """The ascending tuple of the webs, each an ascending tuple of writers."""
    refuse_clash(code)
    return weaving_of(code).webs


def stretch(code, way, step, index):
    """The first and the last step of the stretch of a write on a way, or None if there is no such write."""
    refuse_clash(code)
    check_played(code, way, ())
    if not within(step, 0, len(way) - 1):
        raise NoStep(step)
    if not within(index, 0, len(code.rows[way[step]]) - 1):
        return None
    for at, name, delay, _ in code.writes[way[step]]:
        if at == index:
            return step + 1, last_read(code, way, name, step + delay)
    return None


def last_read(code, way, name, landing):
    """The greater one of a landing and the last step at which a read sees what landed in the register then."""
    end = min([before + delay for before, row in enumerate(way) for _, target, delay, _ in code.writes[row]
               if target == name and before + delay > landing], default=len(way))
    return max([step for step in range(landing, min(end, len(way))) if name in names_read(code.rows[way[step]])],
               default=landing)


def conflicts(code):
    """The ascending tuple of the (i, j, point) for the webs that conflict, with the first point at which they do."""
    refuse_clash(code)
    found = weaving_of(code).conflicts
    return tuple(sorted([pair + (found[pair],) for pair in found]))
