"""What reads see, and what a way hands, with breaks and without."""

from latelands.checks import within
from latelands.errors import NoName, NoStep
from latelands.landings import check_played
from latelands.playing import Run


def value(code, way, step, name, breaks=()):
    """The value that a read of the register with this name sees at this step."""
    check_played(code, way, breaks)
    if not within(step, 0, len(way)):
        raise NoStep(step)
    if name not in code.registers:
        raise NoName(name)
    run = Run(code, breaks)
    run.do_all(way[:step])
    return run.held[name]


def handed(code, way, breaks=()):
    """For each step of the way, for each operation of its row, the values that its sources read."""
    check_played(code, way, breaks)
    run = Run(code, breaks)
    return tuple([run.do(row) for row in way])


def first_change(code, way, breaks):
    """The least (step, index, place) at which another value is handed with the breaks, or None."""
    check_played(code, way, breaks)
    plain = Run(code, ())
    broken = Run(code, breaks)
    for step, row in enumerate(way):
        place = first_difference(plain.do(row), broken.do(row))
        if place is not None:
            return (step,) + place
    return None


def first_difference(told, other):
    """The least (index, place) at which two tuples of what one row hands differ, or None."""
    if told == other:
        return None
    return min([(index, place) for index in range(len(told)) for place in range(len(told[index]))
                if told[index][place] != other[index][place]])
