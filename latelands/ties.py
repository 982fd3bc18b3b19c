"""Which gaps must be shut, and of which two gaps one must be, by the bad gaps and bad pairs of a code."""

from latelands.errors import TooMany
from latelands.judge import judge
from latelands.marks import gaps_that_are_bad, pairs_that_are_bad

MOST_TIED = 16


def forced_gaps(code):
    """The ascending tuple of the gaps that must be shut, whatever the other gaps are."""
    bad = gaps_that_are_bad(code)
    return tuple(sorted(bad + tuple([low for low, high in pairs_that_are_bad(code) if low == high])))


def tied_pairs(code):
    """The ascending list of the bad pairs of two gaps that need not be shut."""
    forced = forced_gaps(code)
    return [pair for pair in pairs_that_are_bad(code) if pair[0] not in forced and pair[1] not in forced]


def refuse_ties(code):
    """Refuses a code with too many gaps in such pairs."""
    if len({gap for pair in tied_pairs(code) for gap in pair}) > MOST_TIED:
        raise TooMany(MOST_TIED)


def change_rows(code):
    """The tuple of the change rows for all these gaps and pairs."""
    rows = [((gap, gap), judge(code, gap)) for gap in forced_gaps(code)]
    return tuple(rows + [(pair, judge(code, pair[0], pair[1])) for pair in tied_pairs(code)])
