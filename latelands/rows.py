"""Operations and rows, as values and as text."""

from latelands.checks import within
from latelands.errors import InvalidText
from latelands.kinds import is_name

MOST_GOAL = 40
# For each sort the least and the greatest number of sources.
SOURCES = {"make": (0, 2), "copy": (1, 1), "give": (1, 2), "jump": (0, 1)}
WRITING_SORTS = ("make", "copy")


def is_operation(machine, value):
    """Whether any value is an operation for this machine."""
    if not isinstance(value, tuple) or len(value) != 4:
        return False
    name, target, sources, goal = value
    if name not in machine:
        return False
    family = machine.kind(name).family
    writes = family in WRITING_SORTS
    jumps = family == "jump"
    return ((is_name(target) if writes else target is None)
            and are_sources(family, sources)
            and (within(goal, 0, MOST_GOAL) if jumps else goal is None))


def are_sources(family, value):
    """Whether any value is a tuple of sources as this sort allows them."""
    least, most = SOURCES[family]
    if not isinstance(value, tuple) or not least <= len(value) <= most:
        return False
    return all([is_name(source) for source in value])


def is_row(machine, value):
    """Whether any value is a row for this machine."""
    if not isinstance(value, tuple) or len(value) > machine.width:
        return False
    if not all([is_operation(machine, operation) for operation in value]):
        return False
    jumps = [operation for operation in value if operation[3] is not None]
    landed = [landing_of(machine, operation) for operation in value if operation[1] is not None]
    return len(jumps) <= 1 and len(set(landed)) == len(landed)


def landing_of(machine, operation):
    """The target of an operation and its delay; no other one of a row has the same."""
    return operation[1], machine.kind(operation[0]).delay


def row_text(row):
    """The text of a row."""
    if len(row) == 0:
        return "-"
    return " ; ".join([operation_text(operation) for operation in row])


def operation_text(operation):
    name, target, sources, goal = operation
    if target is not None:
        words = [target, "=", name]
    elif goal is not None:
        words = [name, str(goal)]
    else:
        words = [name]
    return " ".join([*words, *sources])


def read_row(machine, text):
    """The row that the text writes."""
    if not isinstance(text, str):
        raise InvalidText(0, 0)
    row, wrong = parse_row(machine, text)
    if wrong is not None:
        raise InvalidText(0, wrong)
    return row


def parse_row(machine, text):
    """The row that the text writes and None, or None and the index of the first wrong word."""
    # The end of the text ends an operation as a `;` does, so one more of these stands there.
    words = [*text.split(" "), ";"]
    end = len(words) - 1
    if words[0] == "-":
        return ((), None) if end == 1 else (None, 1)
    row = []
    place = 0
    while place <= end:
        operation, place = parse_operation(machine, words, place, row)
        if operation is None:
            return None, place
        row.append(operation)
        if place < end and len(row) == machine.width:
            return None, place
        place = place + 1
    return tuple(row), None


def parse_operation(machine, words, place, row):
    """The operation that begins at this place, behind those in the row, and the place behind it.

    If it is wrong: None and the place of its first wrong word. So do the functions below.
    """
    if words[place] == ";":
        return None, place
    if words[place + 1] == "=":
        return parse_write(machine, words, place, row)
    name = words[place]
    family = machine.kind(name).family if name in machine else ""
    if family == "give":
        return parse_rest(words, place + 1, family, (name, None, None))
    if family == "jump" and not has_jump(row):
        return parse_jump(words, place, family)
    return None, place


def parse_write(machine, words, place, row):
    """The operation with a target that begins at this place."""
    target = words[place]
    if not is_name(target):
        return None, place
    name = words[place + 2]
    if name not in machine or machine.kind(name).family not in WRITING_SORTS:
        return None, place + 2
    kind = machine.kind(name)
    if (target, kind.delay) in [landing_of(machine, operation) for operation in row]:
        return None, place + 2
    return parse_rest(words, place + 3, kind.family, (name, target, None))


def parse_jump(words, place, family):
    """The jump that begins at this place."""
    if words[place + 1] not in [str(goal) for goal in range(MOST_GOAL + 1)]:
        return None, place + 1
    return parse_rest(words, place + 2, family, (words[place], None, int(words[place + 1])))


def parse_rest(words, place, family, head):
    """The operation with this kind, target and goal, whose sources begin at this place."""
    name, target, goal = head
    least, most = SOURCES[family]
    sources = []
    while words[place] != ";":
        if len(sources) == most or not is_name(words[place]):
            return None, place
        sources.append(words[place])
        place = place + 1
    if len(sources) < least:
        return None, place
    return (name, target, tuple(sources), goal), place


def has_jump(row):
    """Whether one of these operations is a jump."""
    return any([operation[3] is not None for operation in row])
