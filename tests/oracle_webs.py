"""What DOC.md says of webs and renamings ([18]), played out plainly and slowly."""

import itertools

from latelands.codes import Code
from tests import oracle


def last_writer(code, way, name):
    """The pair (step, index) of the write in a register behind a way, None for its entry."""
    return oracle.Play(code, way).held[name][1]


def writer_in(code, way, name):
    """The same as a writer."""
    written = last_writer(code, way, name)
    return (-1, code.registers.index(name)) if written is None else (way[written[0]], written[1])


def states(code):
    """A dict from the points to the set of the tuples of writers that are in the registers there on some way."""
    found, seen, left = {}, set(), [((), (0,))]
    while left:
        way, point = left.pop()
        inside = tuple(writer_in(code, way, name) for name in code.registers)
        if (point, inside) in seen:
            continue
        seen.add((point, inside))
        found.setdefault(point, set()).add(inside)
        if point[-1] < len(code.rows):
            # What comes behind depends on the point and on what is in the registers only.
            longer = way + (point[-1],)
            left.extend((longer, later) for later in oracle.points_of_way(code, longer))
    return found


def seen(code, known):
    """For each read (row, register) of rows on some way the ascending tuple of the writers that it sees."""
    found = {}
    for point, inside in known.items():
        for at, name in enumerate(code.registers):
            if oracle.reads(code, point[-1], name):
                found.setdefault((point[-1], name), set()).update(each[at] for each in inside)
    return {read: tuple(sorted(found[read])) for read in found}


def webs(code, known):
    """The webs, by joining what one read sees until nothing more can be joined."""
    reads = seen(code, known)
    rows = {point[-1] for point in known if point[-1] < len(code.rows)}
    writers = {(row, index) for row in rows for index, operation in enumerate(code.rows[row]) if operation[1] is not None}
    classes = [{writer} for writer in writers | {each for some in reads.values() for each in some}]
    for some in reads.values():
        joined = [each for each in classes if each & set(some)]
        classes = [each for each in classes if not each & set(some)] + [set().union(*joined)]
    return tuple(sorted(tuple(sorted(each)) for each in classes))


def web_of(found, writer):
    return [at for at, web in enumerate(found) if writer in web][0]


def conflicts(code):
    """The conflicts at points, by the names that are kept there."""
    known = states(code)
    found = webs(code, known)
    first = {}
    for point in sorted(known, key=lambda each: (len(each), each)):
        kept = [web_of(found, (point[-1 - back], index)) for back, index, _, landing in oracle.writes_at(code, point)
                if landing >= 0]
        for at, name in enumerate(code.registers):
            if oracle.heard(code, point, name) and not oracle.lands_at(code, point, name):
                some = {web_of(found, inside[at]) for inside in known[point]}
                assert len(some) == 1
                kept.extend(some)
        for pair in itertools.combinations(sorted(kept), 2):
            first.setdefault(pair, point)
    return tuple(sorted(pair + (point,) for pair, point in first.items()))


def stretches(code, way):
    """The stretches of all writes of a way and of the entries that it reads: (first, last, writer)."""
    reads = {}
    for step, row in enumerate(way):
        for name in code.registers:
            if oracle.reads(code, row, name):
                written = last_writer(code, way[:step], name)
                reads[(-1, code.registers.index(name)) if written is None else written] = step
    found = [(0, last, writer) for writer, last in reads.items() if writer[0] == -1]
    for step, row in enumerate(way):
        for index, operation in enumerate(code.rows[row]):
            if operation[1] is not None:
                landing = step + oracle.delay(code, operation)
                found.append((step + 1, max(landing, reads.get((step, index), 0)), (row, index)))
    return found


def meetings(code, way, found):
    """The pairs of webs of which two stretches on the way have a common step."""
    return {tuple(sorted((web_of(found, one[2]), web_of(found, other[2]))))
            for one, other in itertools.combinations(stretches(code, way), 2)
            if max(one[0], other[0]) <= min(one[1], other[1])}


def is_clean(code, way):
    """Whether nothing on this way keeps a code from being clean; the way has no clash."""
    if oracle.clashes(code, way):
        return False
    writes = [(step, step + oracle.delay(code, operation), operation[1]) for step, row in enumerate(way)
              for operation in code.rows[row] if operation[1] is not None]
    for step, landing, name in writes:
        if any(oracle.reads(code, way[at], name) for at in range(step + 1, min(landing, len(way)))):
            return False
        if any(name == other and step + 1 <= lands <= landing - 1 for _, lands, other in writes):
            return False
    return True


def sees_alike(code, renamed, starts, way):
    """Whether each read of a renamed code sees on this way the write or entry that it saw before."""
    for step, row in enumerate(way):
        before, later = oracle.Play(code, way[:step]), oracle.Play(renamed, way[:step])
        for operation, other in zip(code.rows[row], renamed.rows[row]):
            for name, other_name in zip(operation[2], other[2]):
                written, other_written = before.held[name][1], later.held[other_name][1]
                if written != other_written or (written is None and starts.get(other_name) != name):
                    return False
    return True


def renamed(code, found, reads, places, names):
    """The rows of a code with the registers of webs renamed, perhaps not safely; all its rows are on some way."""
    def name_of(writer):
        return names[places[web_of(found, writer)]]

    return [tuple((kind, None if target is None else name_of((at, index)),
                   tuple(name_of(reads[at, source][0]) for source in sources), goal)
                  for index, (kind, target, sources, goal) in enumerate(row)) for at, row in enumerate(code.rows)]


def growths(many, most):
    """All tuples of so many numbers from 0 on, at most so many ones, each new one behind all lesser ones."""
    found = [()]
    for _ in range(many):
        found = [some + (each,) for some in found for each in range(min(max(some, default=-1) + 2, most))]
    return found


def paper_holds(pairs, many, most, paper, case=()):
    """Whether a tuple of the form of a registers paper is one; pairs conflict. Other forms raise errors."""
    word, web, papers = paper
    case = dict(case)
    if word != "web" or web in case or isinstance(web, bool) or not 0 <= web < many:
        return False
    numbers = sorted(set(case.values()))
    assert numbers == list(range(len(numbers)))
    free = [number for number in numbers + ([len(numbers)] if len(numbers) < most else [])
            if not any(case[other] == number for other in case if (other, web) in pairs or (web, other) in pairs)]
    return len(papers) == len(free) and all(paper_holds(pairs, many, most, each, {**case, web: number})
                                            for number, each in zip(free, papers))


def entries_renamed(value, code, starts):
    """A value of a renamed code as a value of the code."""
    return oracle.entry(code, starts[value[1]]) if value[0] == "start" and value[1] in starts else value


def ungrouped(code):
    return Code.of(code.machine, code.rows)
