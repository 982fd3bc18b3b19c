"""How long a bell waits for an open gap, and how short that wait can be made."""

from latelands.checks import check_gaps
from latelands.covering import partners_of
from latelands.judge import judge
from latelands.landings import refuse_clash
from latelands.ties import change_rows, forced_gaps, refuse_ties, tied_pairs
from latelands.waits import lightest_ring, lightest_wait, longest, rows_waited_in


def longest_wait(code, gaps):
    """The longest wait while these gaps are open, and one with so many rows, or None and a ring."""
    refuse_clash(code)
    check_gaps(code, gaps)
    return longest(code, gaps)


def shortest_wait(code):
    """The least longest wait that some harmless set of gaps leaves, such a set, and a paper."""
    refuse_clash(code)
    refuse_ties(code)
    search = Search(code)
    count, gaps = search.least()
    cases = None if count == 0 else search.paper((), count)
    return count, gaps, (judge(code, *gaps), change_rows(code), cases)


class Search:
    """The harmless sets of gaps of a code, and the waits that they leave.

    `ties` is a dict from each gap that need not be shut to the tuple of the gaps with which it is
    not harmless. All sets of gaps among which there is no tie are harmless.
    """

    def __init__(self, code):
        self.code = code
        forced = forced_gaps(code)
        pairs = tied_pairs(code)
        self.ties = {gap: partners_of(pairs, gap) for gap in code.gaps if gap not in forced}
        self.papers = {}

    def least(self):
        """The least longest wait, None if each set leaves a ring, and the ascending tuple of such a set."""
        found = [(longest(self.code, gaps)[0], gaps) for gaps in self.greatest_sets(list(self.ties), ())]
        counts = [(count, gaps) for count, gaps in found if count is not None]
        return min(counts) if len(counts) > 0 else found[0]

    def greatest_sets(self, left, chosen):
        """The list of the ascending tuples of the harmless sets that have the chosen gaps and some of those
        that are left, to which no gap of these can be added: it is enough to look at such sets."""
        if len(left) == 0:
            return [tuple(sorted(chosen))]
        gap = min(left, key=lambda each: (len(self.tied(each, left)), each))
        # Either the gap is in such a set or one of those with which it is tied.
        found = []
        for each in (gap,) + self.tied(gap, left):
            others = [other for other in left if other != each and other not in self.ties[each]]
            found.extend(self.greatest_sets(others, chosen + (each,)))
        return found

    def tied(self, gap, left):
        """The tuple of those of the gaps that are left with which a gap is tied."""
        return tuple([other for other in self.ties[gap] if other in left])

    def paper(self, chosen, count):
        """A wait paper for these chosen gaps, an ascending tuple, where no harmless set leaves less than count."""
        if chosen not in self.papers:
            self.papers[chosen] = self.new_paper(chosen, count)
        return self.papers[chosen]

    def new_paper(self, chosen, count):
        """The same, made anew."""
        undecided = self.undecided(chosen)
        # A gap of which all ties are shut can be open in any case, so a wait without it is there, too.
        spare = [gap for gap in undecided if len(self.tied(gap, undecided)) == 0]
        rows = [row for row in rows_waited_in(self.code) if row not in chosen and row not in spare]
        if count is None:
            wait = lightest_ring(self.code, rows, undecided)
        else:
            wait = lightest_wait(self.code, rows, undecided, count)
        gaps = sorted({row for row in wait if row in undecided})
        return wait, tuple([(gap, self.paper(tuple(sorted(chosen + (gap,))), count)) for gap in gaps])

    def undecided(self, chosen):
        """The list of the gaps that are neither chosen nor tied with a chosen one, nor must be shut."""
        return [gap for gap in self.ties if gap not in chosen and len(self.tied(gap, chosen)) == 0]
