"""What DOC.md says of codes side by side ([17]), played out plainly and slowly."""

import random

from latelands.codes import Code
from latelands.errors import InvalidCode
from latelands.rows import is_row
from tests import oracle


def image(stands, way):
    return tuple(stands[row] for row in way if stands[row] is not None)


def is_way(code, way):
    return all(row in (oracle.next_rows(code, way[at - 1]) if at else [0]) and row < len(code.rows)
               for at, row in enumerate(way))


def spare(other, stands, row):
    return row < len(other.rows) and stands[row] is None


def lead(code, other, stands, row):
    """The row of the code, or its end, to which the other leads on over a row to come; None for ever round."""
    passed = []
    while spare(other, stands, row):
        if row in passed:
            return None
        passed.append(row)
        [row] = oracle.next_rows(other, row)
    return stands[row] if row < len(other.rows) else len(code.rows)


def rows_behind(code, way):
    return oracle.next_rows(code, way[-1]) if way else [0]


def looked_at(code, other, stands, way):
    """Whether a way of the other is one behind which it counts where the other leads on."""
    return is_way(code, image(stands, way)) and not (way and spare(other, stands, way[-1]))


def strays(code, other, stands, way):
    """The rows that are no next rows and to which the other leads on, [None] if it only goes round for ever."""
    led = [lead(code, other, stands, row) for row in rows_behind(other, way)]
    right = rows_behind(code, image(stands, way))
    wrong = sorted(row for row in led if row is not None and row not in right)
    return wrong or ([None] if None in led else [])


def lacks(code, other, stands, way):
    led = [lead(code, other, stands, row) for row in rows_behind(other, way)]
    return [row for row in rows_behind(code, image(stands, way)) if row not in led]


def change(code, other, stands, starts, way):
    """The least (step, index, place) in the last row that reads another value."""
    if not way or spare(other, stands, way[-1]):
        return None
    told = oracle.Play(code, image(stands, way)).handed[-1]
    # Without groups each entry is told by its own register.
    led = oracle.Play(Code.of(other.machine, other.rows), way).handed[-1]

    def same(value, led_value):
        if led_value[0] == "made":
            return value == ("made", len(image(stands, way[:led_value[1]])), led_value[2])
        return led_value[1] in starts and value == oracle.entry(code, starts[led_value[1]])

    wrong = [(len(way) - 1, index, place) for index, values in enumerate(led) for place, value in enumerate(values)
             if not same(told[index][place], value)]
    return min(wrong, default=None)


def verdicts(code, other, stands, starts, rows):
    """For each of three words the number of rows of a shortest way of at most so many rows, or None."""
    found = {"strays": None, "lacks": None, "differs": None}
    ways = [()]
    for many in range(rows + 1):
        for way in ways:
            if looked_at(code, other, stands, way):
                for word, right in (("strays", strays(code, other, stands, way)), ("lacks", lacks(code, other, stands, way)),
                                    ("differs", change(code, other, stands, starts, way))):
                    if right and found[word] is None:
                        found[word] = many
        ways = [way + (row,) for way in ways for row in rows_behind(other, way)
                if row < len(other.rows) and is_way(code, image(stands, way + (row,)))]
    return found


def joints(code, other, stands):
    """The joint points, each with the joint points from which one step leads to it."""

    def of(way, row):
        """The joint point to which a way leads with this row to come, or None."""
        led = lead(code, other, stands, row)
        if led not in rows_behind(code, image(stands, way)):
            return None
        return (image(stands, way)[-oracle.reach(code):] + (led,), way[-oracle.reach(other):] + (row,))

    first = of((), 0)
    if first is None:
        return {}
    found, left = {first: []}, [((), first)]
    while left:
        way, joint = left.pop()
        row = joint[1][-1]
        for later in oracle.next_rows(other, row) if row < len(other.rows) else []:
            if not is_way(code, image(stands, way + (row,))):
                continue
            following = of(way + (row,), later)
            # Ways that lead to one joint point go on to the same ones.
            if following is not None and following not in found:
                found[following] = []
                left.append((way + (row,), following))
            if following is not None and joint not in found[following]:
                found[following].append(joint)
    return found


def standing(code, other, each):
    point, other_point, name, other_name = each
    return (point, other_point, oracle.stands_for(code, point, name), oracle.stands_for(other, other_point, other_name))


def table_holds(code, other, stands, starts, table):
    """Whether the tuples of the form of a table of sames are one, with all sources; other forms raise errors."""
    known = joints(code, other, stands)
    for point, other_point, name, other_name in table:
        if (point, other_point) not in known or name not in oracle.names(code, point):
            return False
        if other_name not in oracle.names(other, other_point):
            return False
    found = {standing(code, other, each) for each in table}
    return (all(same_holds(code, other, stands, starts, found, known, each) for each in found)
            and all(each in found for each in sources(code, other, stands, known)))


def same_holds(code, other, stands, starts, found, known, each):
    point, other_point, name, other_name = each
    if (point, other_point) == ((0,), (0,)):
        return (name[0] == other_name[0] == "in" and other_name[1] in starts
                and oracle.entry(code, name[1]) == oracle.entry(code, starts[other_name[1]]))
    for joint in known[point, other_point]:
        over_spare = spare(other, stands, joint[1][-1])
        was = name if over_spare else oracle.was(code, point, name)
        other_was = oracle.was(other, other_point, other_name)
        if was is None and other_was is None:
            if name[2] != other_name[2]:
                return False
        elif was is None or other_was is None:
            return False
        elif standing(code, other, joint + (was, other_was)) not in found:
            return False
    return True


def sources(code, other, stands, known):
    found = []
    for point, other_point in known:
        row = other_point[-1]
        if row < len(other.rows) and stands[row] is not None:
            for operation, led in zip(code.rows[stands[row]], other.rows[row]):
                for name, other_name in zip(operation[2], led[2]):
                    found.append(standing(code, other, (point, other_point, ("in", name), ("in", other_name))))
    return found


def shifted(rows, at, put):
    """The rows with some more ahead of one, to which all goals are moved along."""
    def moved(goal):
        return goal + len(put) if goal is not None and goal >= at else goal

    rows = [tuple(operation[:3] + (moved(operation[3]),) for operation in row) for row in rows]
    return rows[:at] + put + rows[at:]


def random_other(chance, code):
    """A code that may be beside a code, with its rows and starts; perhaps it is not in some way."""
    names = dict(zip(code.registers, chance.sample("pqrstuvw", len(code.registers))))
    rows = [tuple((kind, names.get(target), tuple(names[source] for source in sources), goal)
                  for kind, target, sources, goal in row) for row in code.rows]
    stands = list(range(len(rows)))
    starts = {new: old for old, new in names.items()}
    jumps = [kind.name for kind in code.machine.kinds if kind.family == "jump"]
    for _ in range(chance.choice([0, 0, 1, 1, 2])):
        at = chance.randint(0, len(rows))
        put = [()]
        if chance.random() < 0.5:
            goal = at + 1 + code.machine.late if chance.random() < 0.7 else chance.randint(0, len(rows))
            put = [((jumps[0], None, (), goal),)] + [()] * code.machine.late
        rows = shifted(rows, at, put)
        stands[at:at] = [None] * len(put)
    for _ in range(chance.choice([0, 0, 0, 1, 1, 2])):
        rows, starts = spoilt(chance, code, rows, starts)
    return rows, tuple(stands), starts


def spoilt(chance, code, rows, starts):
    """Rows and starts with something changed."""
    rows, starts = list(rows), dict(starts)
    at = chance.randrange(len(rows))
    what = chance.choice(["start", "goal", "goal", "source", "kind", "target"])
    if what == "start" and starts:
        name = chance.choice(sorted(starts))
        starts[name] = chance.choice(code.registers)
        if chance.random() < 0.5:
            del starts[name]
    changed = []
    for kind, target, sources, goal in rows[at]:
        if what == "goal" and goal is not None:
            goal = min(at + 1 + code.machine.late, len(rows)) if chance.random() < 0.4 else chance.randint(0, len(rows))
        if what == "source" and sources:
            sources = tuple(chance.choice("pqrstuvw"[:4]) for _ in sources)
        if what == "target" and target is not None:
            target = chance.choice("pqrstuvw"[:4])
        if what == "kind":
            family = code.machine.kind(kind).family
            kind = chance.choice([each.name for each in code.machine.kinds if each.family == family])
        changed.append((kind, target, sources, goal))
    rows[at] = tuple(changed)
    return rows, starts


def random_sides(seed, many, most_rows=5):
    """Tuples (code, other, rows, starts) that fit."""
    chance = random.Random(seed)
    found = []
    while len(found) < many:
        code = oracle.random_code(chance, most_rows)
        rows, stands, starts = random_other(chance, code)
        if not all(is_row(code.machine, row) for row in rows):
            continue
        try:
            other = Code.of(code.machine, rows)
        except InvalidCode:
            continue
        if len(other.registers) > 1 and chance.random() < 0.3:
            other = Code.of(code.machine, rows, alike=[other.registers[:2]])
        starts = {name: starts[name] for name in starts if name in other.registers and starts[name] in code.registers}
        if fits(code, other, stands):
            found.append((code, other, stands, starts))
    return found


def fits(code, other, stands):
    """Whether rows that are made here fit: rows of jumps and their late rows are spare together."""
    held = [(at, at + behind) for at, row in enumerate(other.rows) if oracle.jump_in(row)
            for behind in range(1, other.machine.late + 1)]
    for at, stand in enumerate(stands):
        if stand is not None and [(oracle.family(code, o), len(o[2])) for o in code.rows[stand]] != [
                (oracle.family(other, o), len(o[2])) for o in other.rows[at]]:
            return False
    return all((stands[at] is None) == (stands[late] is None) for at, late in held)
