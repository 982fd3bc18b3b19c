"""What the rows of a code have in them, and how they follow one another.

The rows are a tuple of rows of the machine, as latelands.rows tells.
"""


def jump_of(row):
    """The jump of a row, or None."""
    for operation in row:
        if operation[3] is not None:
            return operation
    return None


def goals_of(rows):
    """The goals of all jumps."""
    return [jump_of(row)[3] for row in rows if jump_of(row) is not None]


def names_read(row):
    """The list of the registers that the operations of a row read."""
    return [source for _, _, sources, _ in row for source in sources]


def names_of(rows):
    """The ascending tuple of the registers in the operations."""
    read = [name for row in rows for name in names_read(row)]
    written = [target for row in rows for _, target, _, _ in row if target is not None]
    return tuple(sorted(set(read + written)))


def held_of(rows, late):
    """The ascending tuple of the late rows of all jumps."""
    return tuple([at + behind for at, row in enumerate(rows) if jump_of(row) is not None
                  for behind in range(1, late + 1)])


def following_of(rows, late):
    """For each row the ascending tuple of its next rows; the number of rows is the end."""
    following = [(at + 1,) for at in range(len(rows))]
    for at, row in enumerate(rows):
        jump = jump_of(row)
        if jump is not None:
            following[at + late] = next_of_jump(jump, at + late)
    return tuple(following)


def next_of_jump(jump, last):
    """The next rows of the row from which the jump leads on."""
    _, _, sources, goal = jump
    if len(sources) == 0:
        return (goal,)
    return tuple(sorted({goal, last + 1}))


def reached_by(following):
    """A dict from each row to which a way leads, and the end, to the least of the shortest ways.

    For a row these are the ways whose last row it is; for the end those behind which the code can end.
    """
    found = {0: (0,)}
    queue = [0]
    done = 0
    # The rows stand in the order of their ways, so the first way that is found to a row is the least.
    while done < len(queue):
        row = queue[done]
        done = done + 1
        for later in following[row]:
            if later not in found and later < len(following):
                found[later] = found[row] + (later,)
                queue.append(later)
            elif later not in found:
                found[later] = found[row]
    return found


def leading_of(following):
    """For each row, and for the end, the ascending tuple of the rows whose next row it is."""
    size = len(following)
    return tuple([tuple([at for at in range(size) if row in following[at]]) for row in range(size + 1)])


def writes_of(machine, rows):
    """For each row the tuple of its writes: (index, register, delay, copied).

    Copied is the register that a copy reads, or None for a make.
    """
    return tuple([tuple([write_of(machine, index, operation) for index, operation in enumerate(row)
                         if operation[1] is not None]) for row in rows])


def write_of(machine, index, operation):
    name, target, sources, _ = operation
    kind = machine.kind(name)
    copied = sources[0] if kind.family == "copy" else None
    return index, target, kind.delay, copied
