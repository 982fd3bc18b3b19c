"""What the rows of a way of another code read, held against what its image in the code reads."""

from latelands.playing import Run
from latelands.values import first_difference


def change_at_end(side, way):
    """The least (step, index, place) in the last row of a way at which it reads another value, or None.

    It is a way of the other, with a way of the code as its image, and its last row is not spare.
    """
    told = handed_last(Run(side.code, ()), side.image_of(way))
    run = Run(side.other, ())
    run.held = entries_of_other(side)
    steps = steps_in_image(side, way)
    other_told = tuple([tuple([value_in_image(value, steps) for value in values])
                        for values in handed_last(run, way)])
    place = first_difference(told, other_told)
    return None if place is None else (len(way) - 1,) + place


def handed_last(run, way):
    """What the last row of a way hands in a run that has not begun."""
    run.do_all(way[:-1])
    return run.do(way[-1])


def entries_of_other(side):
    """What the registers of the other hold at first, as values of the code or unlike all these."""
    return {name: side.code.entry(side.starts[name]) if name in side.starts else ("own", name)
            for name in side.other.registers}


def steps_in_image(side, way):
    """For each step of a way the number of the steps of its image ahead of it."""
    steps = []
    done = 0
    for row in way:
        steps.append(done)
        if side.stands[row] is not None:
            done = done + 1
    return steps


def value_in_image(value, steps):
    """The value of the code that is the same as a value of the other, by these steps."""
    return ("made", steps[value[1]], value[2]) if value[0] == "made" else value
