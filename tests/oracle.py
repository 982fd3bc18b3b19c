"""What DOC.md says, played out plainly and slowly, to hold the program against it.

Nothing that judges here asks the package for more than the rows, groups and kinds of a code.
"""

import itertools
import random

from latelands.codes import Code
from latelands.errors import InvalidCode
from latelands.kinds import Copy, Give, Jump, Make
from latelands.machines import Machine
from latelands.rows import is_row


def jump_in(row):
    for operation in row:
        if operation[3] is not None:
            return operation
    return None


def next_rows(code, row):
    """[7]: the next rows of a row, found from the jump whose last late row it is."""
    source = row - code.machine.late
    jump = jump_in(code.rows[source]) if source >= 0 else None
    if jump is None:
        return [row + 1]
    return sorted({jump[3], row + 1} if jump[2] else {jump[3]})


def ways_of(code, rows):
    """All ways with this number of rows, ascending."""
    found = [()]
    for _ in range(rows):
        found = [way + (row,) for way in found
                 for row in (next_rows(code, way[-1]) if way else [0]) if row < len(code.rows)]
    return found


def ways_up_to(code, rows):
    return [way for many in range(rows + 1) for way in ways_of(code, many)]


def reach(code):
    return max([delay(code, operation) for row in code.rows for operation in row if operation[1]], default=1)


def delay(code, operation):
    return [kind.delay for kind in code.machine.kinds if kind.name == operation[0]][0]


def family(code, operation):
    return [kind.family for kind in code.machine.kinds if kind.name == operation[0]][0]


def points_of_way(code, way):
    """[12]: the points to which a way leads."""
    last = way[-reach(code):]
    return [last + (row,) for row in (next_rows(code, way[-1]) if way else [0])]


def points(code, rows):
    """The points to which the ways of at most so many rows lead."""
    found = {point for way in ways_up_to(code, rows) for point in points_of_way(code, way)}
    return sorted(found, key=lambda point: (len(point), point))


def clashes(code, way):
    """The registers to which two writes of the way have one landing."""
    found = {}
    for step, row in enumerate(way):
        for operation in code.rows[row]:
            if operation[1] is not None:
                key = (step + delay(code, operation), operation[1])
                found[key] = found.get(key, 0) + 1
    return sorted({name for (_, name), many in found.items() if many > 1})


def clash(code, rows):
    """The length of a shortest way with a clash among those of at most so many rows, or None."""
    for way in ways_up_to(code, rows):
        if clashes(code, way):
            return len(way)
    return None


class Play:
    """A way done step by step, with registers that hold what has landed."""

    def __init__(self, code, way, breaks=()):
        self.code = code
        self.held = {name: (entry(code, name), None) for name in code.registers}
        self.flying = []
        self.landed = []
        self.results = {}
        self.handed = ()
        for step, row in enumerate(way):
            self.land(step, step in breaks)
            self.issue(step, code.rows[row])
        self.land(len(way), False)

    def land(self, step, broken):
        """What is due lands, or all if the world breaks in, in the order of the landings."""
        due = sorted(write for write in self.flying if broken or write[0] <= step)
        self.flying = [write for write in self.flying if write not in due]
        for landing, issued, index, name in due:
            self.held[name] = (self.results[issued, index], (issued, index))
            self.landed.append((step, landing, issued, index, name))

    def issue(self, step, row):
        read = {name: held[0] for name, held in self.held.items()}
        self.handed += (tuple(tuple(read[source] for source in operation[2]) for operation in row),)
        for index, operation in enumerate(row):
            if operation[1] is not None:
                made = family(self.code, operation) == "make"
                self.results[step, index] = ("made", step, index) if made else read[operation[2][0]]
                self.flying.append((step + delay(self.code, operation), step, index, operation[1]))

    def landings(self):
        """All landings, also those behind the end of the way."""
        behind = [(landing, landing, step, index, name) for landing, step, index, name in self.flying]
        return tuple(sorted(self.landed + behind))


def entry(code, name):
    for group in code.alike:
        if name in group:
            return ("start", min(group))
    return ("start", name)


def value(code, way, name):
    """The value of a name at a point to which the way leads."""
    play = Play(code, way)
    if name[0] == "in":
        return play.held[name[1]][0]
    return play.results[len(way) - name[1], name[2]]


def names(code, point):
    """[12]: the names at a point."""
    by = [("by", back, index) for back in range(1, len(point))
          for index, operation in enumerate(code.rows[point[-1 - back]]) if operation[1] is not None]
    return sorted(by + [("in", name) for name in code.registers])


def stands_for(code, point, name):
    for by in names(code, point):
        if by[0] == "by" and name[0] == "in":
            operation = code.rows[point[-1 - by[1]]][by[2]]
            if operation[1] == name[1] and delay(code, operation) == by[1]:
                return by
    return name


def was(code, point, name):
    """[12]: what a name at a point was at a point before it, None if it is new."""
    stands = stands_for(code, point, name)
    if stands[0] == "in":
        return stands
    if stands[1] > 1:
        return ("by", stands[1] - 1, stands[2])
    operation = code.rows[point[-2]][stands[2]]
    return ("in", operation[2][0]) if family(code, operation) == "copy" else None


def before(code, point, known):
    """The points that this one is after, among the known ones."""
    return befores(code, known).get(point, [])


def befores(code, known):
    """For each known point, or what comes after one, the known points before it."""
    found = {point: [] for point in known}
    for point in known:
        for later in after(code, point):
            found.setdefault(later, []).append(point)
    return found


def holds(code, table, known):
    """Whether each tuple of a table of alikes holds ([13])."""
    table, leading = set(table), befores(code, known)
    return all(tuple_holds(code, table, leading, each) for each in table)


def tuple_holds(code, table, leading, each):
    point, one, other = each
    if point not in leading or not one < other:
        return False
    if one not in names(code, point) or other not in names(code, point):
        return False
    if stands_for(code, point, one) == stands_for(code, point, other):
        return True
    if point == (0,):
        return entry(code, one[1]) == entry(code, other[1])
    first, second = was(code, point, one), was(code, point, other)
    if first is None or second is None:
        return False
    return first == second or all((p, min(first, second), max(first, second)) in table
                                  for p in leading[point])


def held_gaps(code):
    """[6], [8]: the late rows of all jumps."""
    return [at + behind for at, row in enumerate(code.rows) if jump_in(row)
            for behind in range(1, code.machine.late + 1)]


def moments(code, way):
    return [step for step in range(1, len(way)) if way[step] not in held_gaps(code)]


def first_change(code, way, breaks):
    """[10]: the first change, by what the way hands with the breaks and without."""
    return change_between(Play(code, way).handed, Play(code, way, breaks).handed)


def change_between(plain, broken):
    changes = [(step, index, place) for step, row in enumerate(plain) for index, values in enumerate(row)
               for place, each in enumerate(values) if broken[step][index][place] != each]
    return min(changes, default=None)


def least_changes(code, rows, most_breaks=2):
    """[11]: for the gaps of breaks, on the ways of at most so many rows, the rows of a shortest way that they change."""
    found = {}
    for way in ways_up_to(code, rows):
        plain = Play(code, way).handed
        for many in range(1, most_breaks + 1):
            for breaks in itertools.combinations(moments(code, way), many):
                change = change_between(plain, Play(code, way, breaks).handed)
                if change is not None:
                    gaps = tuple(sorted(way[moment] for moment in breaks))
                    found[gaps] = min(found.get(gaps, len(way)), change[0] + 1)
    return found


def writes_at(code, point):
    """[14]: the writes in the rows of a point that were done: (row's steps ago, index, register, landing from now)."""
    return [(back, index, operation[1], delay(code, operation) - back) for back in range(1, len(point))
            for index, operation in enumerate(code.rows[point[-1 - back]]) if operation[1] is not None]


def differences(code, point, ages):
    """[14]: what a read would see now with the breaks, if not for the breaks it lands later or another just now."""
    found = []
    for name in code.registers:
        writes = [write for write in writes_at(code, point) if write[2] == name]
        early = [(min([write[3]] + [-age for age in ages if -write[0] < -age]), write) for write in writes]
        landed = [(e, write[3], write) for e, write in early if e <= 0]
        if landed:
            seen = max(landed)[2]
            if seen[3] > 0 or any(write[3] == 0 for write in writes if write != seen):
                found.append((name, seen[0], seen[1]))
    return tuple(sorted(found))


def patterns(code, point):
    """[14]: all patterns at a point."""
    ages = [age for age in range(len(point) - 1)
            if point[-1 - age] < len(code.rows) and point[-1 - age] not in held_gaps(code)]
    return [(age,) for age in ages] + list(itertools.combinations(ages, 2))


def gaps_of(point, ages):
    return tuple(sorted(point[-1 - age] for age in ages))


def after(code, point):
    """[12]: the points after a point."""
    rows = next_rows(code, point[-1]) if point[-1] < len(code.rows) else []
    return [(point + (row,))[-reach(code) - 1:] for row in rows]


def lands_at(code, point, name):
    return any(write[2] == name and write[3] == 0 for write in writes_at(code, point))


def reads(code, row, name):
    return row < len(code.rows) and any(name in operation[2] for operation in code.rows[row])


def heard(code, point, name):
    """[14]: the number of rows of a shortest tuple that shows that the register is heard, or None."""
    layer, seen, rows = [point], set(), 1
    while layer:
        if any(reads(code, each[-1], name) for each in layer):
            return rows
        seen |= set(layer)
        layer = [each for each in {later for each in layer for later in after(code, each)}
                 if each not in seen and not lands_at(code, each, name)]
        rows += 1
    return None


def quiets_hold(code, table, known):
    """[14]: whether each pair of a table of quiets holds."""
    return all(point in known and name in code.registers and not reads(code, point[-1], name)
               and all(lands_at(code, later, name) or (later, name) in table for later in after(code, point))
               for point, name in table)


def open_holds(code, gaps, paper, known):
    """[13], [14]: whether a paper shows that these gaps are together harmless."""
    word, alikes, quiets = paper
    if word != "open" or not holds(code, set(alikes), known) or not quiets_hold(code, set(quiets), known):
        return False
    return all((point, ("by", back, index), ("in", name)) in set(alikes) or (point, name) in set(quiets)
               for point in known for ages in patterns(code, point) if set(gaps_of(point, ages)) <= set(gaps)
               for name, back, index in differences(code, point, ages))


def rows_waited_in(code):
    """[16]: the rows in which a wait can begin."""
    reached, left = {0}, [0]
    begin = set()
    while left:
        for row in next_rows(code, left.pop()):
            if row < len(code.rows):
                begin.add(row)
                if row not in reached:
                    reached.add(row)
                    left.append(row)
    return sorted(begin)


def longest_wait(code, gaps):
    """[16]: the longest wait, or None if there is a ring; all waits are tried."""
    ends, length = {row for row in rows_waited_in(code) if row not in gaps}, 0
    while ends:
        length += 1
        if length > len(code.rows):
            return None
        ends = {row for end in ends for row in next_rows(code, end) if row < len(code.rows) and row not in gaps}
    return length


def is_wait(code, gaps, rows):
    """[16]: whether a tuple of integers is a wait."""
    right = rows_waited_in(code)
    for row in rows:
        if row not in right or row in gaps:
            return False
        right = next_rows(code, row) if row < len(code.rows) else []
    return len(code.rows) not in rows


def is_ring(code, gaps, rows):
    return is_wait(code, gaps, rows) and len(rows) > 0 and rows[0] in next_rows(code, rows[-1])


def cover_holds(pairs, most, paper):
    """[15]: whether a tuple of the form of a cover paper is one; other forms raise errors."""
    if paper is None:
        return most < 0
    if paper[0] == "pairs":
        word, some = paper
        numbers = [number for pair in some for number in set(pair)]
        return len(some) > most and all(pair in pairs for pair in some) and len(numbers) == len(set(numbers))
    word, number, taken, left = paper
    partners = {other for pair in pairs for other in pair if number in pair and other != number}
    if word != "case" or not partners or (number, number) in pairs:
        return False
    return (cover_holds([pair for pair in pairs if number not in pair], most - 1, taken)
            and cover_holds([pair for pair in pairs if not partners & set(pair)], most - len(partners), left))


def wait_paper_holds(code, pairs, count, paper, chosen=()):
    """[16]: whether a tuple of the form of a wait paper is one; other forms raise errors."""
    rows, cases = paper
    if not is_ring(code, chosen, rows) and not (is_wait(code, chosen, rows) and len(rows) == count):
        return False
    shut = set(held_gaps(code)) | {low for low, high in pairs if low == high}
    shut |= {gap for pair in pairs for gap in pair if (set(pair) - {gap}) & set(chosen)}
    asked = [gap for gap in sorted(set(rows)) if gap not in shut]
    return [gap for gap, _ in cases] == asked and all(
        wait_paper_holds(code, pairs, count, case, chosen + (gap,)) for gap, case in cases)


MACHINES = [
    (Make("calc", 2), Make("slow", 5), Copy("move", 4), Give("send"), Jump("go")),
    (Make("one", 1), Copy("keep", 1), Copy("move", 3), Give("send"), Jump("go")),
    (Copy("quick", 1), Copy("keep", 2), Make("calc", 2), Jump("go")),
]


def random_row(chance, machine, size, registers, jumps):
    """A row of the machine; one that must not have a jump may still fail as a late row's goal."""
    while True:
        row = tuple(random_operation(chance, machine, size, registers)
                    for _ in range(chance.choice([0, 1, 1, 1, 2, 2, 3])))
        if is_row(machine, row) and (jumps or jump_in(row) is None):
            return row


def random_operation(chance, machine, size, registers):
    kind = chance.choice(machine.kinds + machine.kinds[-1:])
    counts = {"make": (0, 1), "copy": (1,), "give": (1, 2), "jump": (0, 1, 1, 1, 1, 1)}[kind.family]
    sources = tuple(chance.choice(registers) for _ in range(chance.choice(counts)))
    target = chance.choice(registers) if kind.family in ("make", "copy") else None
    goal = chance.choice([0, chance.randint(0, size)]) if kind.family == "jump" else None
    return (kind.name, target, sources, goal)


def random_rows(chance, machine, size, registers):
    """Rows of which none that must be a late row has a jump."""
    rows = []
    held = 0
    for at in range(size):
        rows.append(random_row(chance, machine, size, registers, not held and at + machine.late < size))
        held = machine.late if jump_in(rows[-1]) else max(0, held - 1)
    return rows


def random_code(chance, most_rows=6):
    """A code for one of a few machines, small, often with jumps and groups."""
    size = chance.choice([1, *range(2, most_rows + 1), most_rows])
    late = chance.choice([0, 0, 1, 2])
    machine = Machine(*chance.choice(MACHINES), late=late, width=3)
    registers = ["a", "b", "c"][:chance.randint(1, 3)]
    while True:
        rows = random_rows(chance, machine, size, registers)
        try:
            code = Code.of(machine, rows)
        except InvalidCode:
            continue
        if len(code.registers) > 1 and chance.random() < 0.5:
            group = chance.sample(code.registers, chance.randint(2, len(code.registers)))
            return Code.of(machine, rows, alike=[group])
        return code


def random_tied(chance, most_rows=8):
    """A code whose registers begin alike, with copies that land late, in which bad pairs are not rare."""
    while True:
        machine = Machine(Copy("quick", chance.randint(1, 2)), Copy("move", chance.randint(3, 6)), Copy("far", 6),
                          Make("calc", chance.randint(1, 3)), Give("send"), Jump("go"), late=chance.choice([0, 0, 1]))
        registers = "abc"[:chance.randint(2, 3)]
        size = chance.randint(4, most_rows)
        rows = [tuple(tied_operation(chance, size, registers) for _ in range(chance.choice([0, 1, 1, 1, 2])))
                for _ in range(size)]
        try:
            code = Code.of(machine, rows)
        except InvalidCode:
            continue
        return Code.of(machine, rows, alike=[code.registers] if len(code.registers) > 1 else [])


def tied_operation(chance, size, registers):
    name = chance.choice(["quick", "move", "far", "calc", "calc", "send", "send", "go"])
    source = chance.choice(registers)
    if name == "send":
        return (name, None, (source,), None)
    if name == "go":
        return (name, None, (source,), chance.choice([0, chance.randint(0, size)]))
    return (name, chance.choice(registers), () if name == "calc" else (source,), None)


def random_codes(seed, many, most_rows=6):
    chance = random.Random(seed)
    return [random_code(chance, most_rows) for _ in range(many)]
