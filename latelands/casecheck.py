"""Checks of what least_shut and shortest_wait tell. They search nothing."""

from latelands.checks import are_integers, within
from latelands.covering import partners_of, without
from latelands.judgecheck import shows_change, shows_open
from latelands.landings import refuse_clash
from latelands.waiting import longest_wait
from latelands.waits import is_ring, is_wait


def shows_least(code, shut, paper):
    """Whether any values are as few gaps as are enough, and a paper that shows it."""
    refuse_clash(code)
    if not are_gaps(code, shut) or not isinstance(paper, tuple) or len(paper) != 3:
        return False
    harmless, changes, cover = paper
    others = [gap for gap in code.gaps if gap not in shut]
    if not are_change_rows(code, changes) or not shows_open(code, others, harmless):
        return False
    return shows_cover([gaps for gaps, _ in changes], len(shut) - 1, cover)


def shows_wait(code, count, gaps, paper):
    """Whether any values are the least longest wait, gaps that leave it, and a paper that shows it."""
    refuse_clash(code)
    if not are_gaps(code, gaps) or not isinstance(paper, tuple) or len(paper) != 3:
        return False
    if count is not None and not within(count, 0, len(code)):
        return False
    harmless, changes, cases = paper
    if longest_wait(code, gaps)[0] != count:
        return False
    if not are_change_rows(code, changes) or not shows_open(code, gaps, harmless):
        return False
    if count == 0:
        return cases is None
    return is_wait_paper(code, [pair for pair, _ in changes], count, cases)


def are_gaps(code, value):
    """Whether any value is an ascending tuple of gaps that are not held, each once."""
    return are_integers(value) and list(value) == [gap for gap in code.gaps if gap in value]


def are_change_rows(code, value):
    """Whether any value is a tuple of change rows."""
    return isinstance(value, tuple) and all([is_change_row(code, each) for each in value])


def is_change_row(code, value):
    """Whether any value is a change row."""
    if not isinstance(value, tuple) or len(value) != 2:
        return False
    gaps, change = value
    if not are_integers(gaps) or len(gaps) != 2 or gaps[0] > gaps[1]:
        return False
    return gaps[0] in code.gaps and gaps[1] in code.gaps and shows_change(code, gaps, change)


def shows_cover(pairs, c, paper):
    """Whether any value is a cover paper for these pairs and a number."""
    # A paper may be nested deep, so its parts are looked at one after another.
    left = [(list(pairs), c, paper)]
    while len(left) > 0:
        some, most, part = left.pop()
        parts = parts_of_cover(some, most, part)
        if parts is None:
            return False
        left.extend(parts)
    return True


def parts_of_cover(pairs, most, paper):
    """The list of the (pairs, number, paper) that a cover paper rests on, None if it is none in any case."""
    if paper is None:
        return [] if most < 0 else None
    if not isinstance(paper, tuple) or len(paper) < 2:
        return None
    if paper[0] == "pairs":
        return [] if len(paper) == 2 and are_apart(pairs, paper[1]) and len(paper[1]) > most else None
    if paper[0] != "case" or len(paper) != 4:
        return None
    _, number, taken, spared = paper
    if not are_integers((number,)) or (number, number) in pairs:
        return None
    partners = partners_of(pairs, number)
    if len(partners) == 0:
        return None
    return [(without(pairs, (number,)), most - 1, taken), (without(pairs, partners), most - len(partners), spared)]


def are_apart(pairs, value):
    """Whether any value is a tuple of some of these pairs, no two of which have a number in common."""
    if not isinstance(value, tuple):
        return False
    known = {pair: True for pair in pairs}
    taken = {}
    for pair in value:
        if not are_integers(pair) or pair not in known or pair[0] in taken or pair[1] in taken:
            return False
        taken[pair[0]] = True
        taken[pair[1]] = True
    return True


def is_wait_paper(code, pairs, count, paper):
    """Whether any value is a wait paper for these pairs of change rows, no chosen gaps, and a number or None."""
    ties = ties_in(pairs)
    left = [((), paper)]
    while len(left) > 0:
        chosen, part = left.pop()
        parts = parts_of_wait(code, ties, count, chosen, part)
        if parts is None:
            return False
        left.extend(parts)
    return True


def ties_in(pairs):
    """A dict from each gap in these pairs to a dict of the gaps beside which it stands, perhaps itself."""
    ties = {gap: {} for pair in pairs for gap in pair}
    for low, high in pairs:
        ties[low][high] = True
        ties[high][low] = True
    return ties


def parts_of_wait(code, ties, count, chosen, paper):
    """The list of the (chosen, paper) that a wait paper rests on, None if it is none in any case."""
    if not isinstance(paper, tuple) or len(paper) != 2:
        return None
    rows, cases = paper
    if not is_ring(code, chosen, rows) and not (is_wait(code, chosen, rows) and len(rows) == count):
        return None
    asked = [gap for gap in sorted(set(rows)) if not is_shown_shut(code, ties, chosen, gap)]
    if not isinstance(cases, tuple) or len(cases) != len(asked):
        return None
    for gap, case in zip(asked, cases):
        if not isinstance(case, tuple) or len(case) != 2 or not are_integers(case[:1]) or case[0] != gap:
            return None
    return [(chosen + (case[0],), case[1]) for case in cases]


def is_shown_shut(code, ties, chosen, gap):
    """Whether a gap cannot be open in a harmless set with the chosen gaps, as the change rows tell."""
    if gap in code.held:
        return True
    beside = ties.get(gap, {})
    return gap in beside or any([other in beside for other in chosen])
