"""The fewest registers that a code needs, and codes with other registers."""

from latelands.codes import Code
from latelands.errors import InvalidCode, InvalidMap, TooMany
from latelands.landings import refuse_clash
from latelands.numbering import fewest_numbers, needed_things, numbers_paper
from latelands.places import apart_in, first_never, wrong_place
from latelands.weaving import weaving_of

MOST_WEBS = 16


def fewest(code):
    """A number for each web, as few as possible, with a paper, or the first web that conflicts with itself."""
    refuse_clash(code)
    if len(weaving_of(code).webs) > MOST_WEBS:
        raise TooMany(MOST_WEBS)
    never = first_never(code)
    if never is not None:
        return ("never",) + never
    apart = apart_in(code)
    places = fewest_numbers(apart)
    if len(places) == 0:
        return "fewest", places, None
    # The last number is one less than there are numbers.
    most = max(places)
    return "fewest", places, numbers_paper(apart, needed_things(apart, most), {}, most)


def rename(code, places, names):
    """The code in which the registers of each web have the name at its place, with rows and starts."""
    refuse_clash(code)
    wrong = wrong_place(code, places, len(names))
    if wrong is not None:
        raise InvalidMap(wrong)
    if len(names) > Code.MOST_REGISTERS:
        raise InvalidCode("registers", None)
    given = [names[place] for place in places]
    rows = [renamed_row(code, row, given) for row in range(len(code))]
    starts = starts_of(code, given)
    held = [[name for name in starts if starts[name] in group] for group in code.alike]
    groups = [names_held for names_held in held if len(names_held) > 1]
    renamed = Code(code.machine, *rows, alike=groups)
    return renamed, tuple([row if row in code.reached else None for row in range(len(code))]), starts


def renamed_row(code, row, given):
    """A row with the names that are given to webs, without operations if no way leads to it."""
    if row not in code.reached:
        return ()
    weaving = weaving_of(code)
    found = []
    for index, (kind, target, sources, goal) in enumerate(code.rows[row]):
        # All writers that a read sees are in one web.
        read = tuple([given[weaving.web_of[weaving.seen[(row, source)][0]]] for source in sources])
        written = None if target is None else given[weaving.web_of[(row, index)]]
        found.append((kind, written, read, goal))
    return tuple(found)


def starts_of(code, given):
    """The dict from the names that are given to webs with an entry, ascending, to the registers of these."""
    web_of = weaving_of(code).web_of
    found = {given[web]: code.registers[writer[1]] for writer, web in web_of.items() if writer[0] == -1}
    return {name: found[name] for name in sorted(list(found))}
