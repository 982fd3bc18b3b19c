"""A check of what fewest tells. It searches nothing."""

from latelands.checks import within
from latelands.landings import refuse_clash
from latelands.numbering import free_numbers
from latelands.places import apart_in, wrong_place


def shows_fewest(code, places, paper):
    """Whether any values are places for the webs, and a registers paper for one number less."""
    refuse_clash(code)
    apart = apart_in(code)
    if wrong_place(code, places, len(apart)) is not None:
        return False
    if len(places) == 0:
        return paper is None
    # The last number is one less than there are numbers.
    return is_registers_paper(apart, max(places), paper)


def is_registers_paper(apart, most, paper):
    """Whether any value is a registers paper for so many numbers, in the case in which no web has one."""
    # A paper may be nested deep, so its parts are looked at one after another.
    left = [({}, paper)]
    while len(left) > 0:
        case, part = left.pop()
        parts = parts_of_registers(apart, most, case, part)
        if parts is None:
            return False
        left.extend(parts)
    return True


def parts_of_registers(apart, most, case, paper):
    """The list of the (case, paper) that a registers paper rests on, None if it is none in any case."""
    if not isinstance(paper, tuple) or len(paper) != 3:
        return None
    word, web, papers = paper
    if word != "web" or not within(web, 0, len(apart) - 1) or web in case:
        return None
    numbers = free_numbers(apart, case, web, most)
    if not isinstance(papers, tuple) or len(papers) != len(numbers):
        return None
    return [({**case, web: number}, part) for number, part in zip(numbers, papers)]
