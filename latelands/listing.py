"""Texts that show a code and its gaps, and what is on its way on a way."""

from latelands.landings import check_played, landed, refuse_clash
from latelands.marks import gaps_that_are_bad, pairs_that_are_bad
from latelands.rows import row_text


def listing(code):
    """A line for each row: its number, the word for its gap, its text."""
    refuse_clash(code)
    bad = gaps_that_are_bad(code)
    paired = [gap for pair in pairs_that_are_bad(code) for gap in pair]
    lines = [f"{row:>2} {word_for(code, row, bad, paired):<5} {row_text(code.rows[row])}" for row in range(len(code))]
    return "\n".join(lines)


def word_for(code, gap, bad, paired):
    """The word for a gap, by the bad gaps and those of bad pairs."""
    if gap in code.held:
        return "held"
    if gap in bad:
        return "bad"
    return "pair" if gap in paired else "open"


def chart(code, way, breaks=()):
    """A line for each register: for each step how many writes to it are on their way."""
    check_played(code, way, breaks)
    counts = {name: [0] * len(way) for name in code.registers}
    for early, _, step, _, name in landed(code, way, breaks):
        for at in range(step, min(early - 1, len(way))):
            counts[name][at] = counts[name][at] + 1
    lines = [f"{name:<8} {signs_of(counts[name])}" for name in code.registers]
    return "\n".join(lines)


def signs_of(numbers):
    """The signs for numbers of writes."""
    return "".join([str(number) if number > 0 else "." for number in numbers])
