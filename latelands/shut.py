"""The fewest gaps that must be shut."""

from latelands.covering import cover_paper, least_cover
from latelands.judge import judge
from latelands.landings import refuse_clash
from latelands.ties import change_rows, refuse_ties


def least_shut(code):
    """An ascending tuple of gaps that are enough, as few as possible, and a paper that shows it."""
    refuse_clash(code)
    refuse_ties(code)
    changes = change_rows(code)
    pairs = [gaps for gaps, _ in changes]
    shut = least_cover(pairs)
    others = [gap for gap in code.gaps if gap not in shut]
    return shut, (judge(code, *others), changes, cover_paper(pairs, len(shut) - 1))
