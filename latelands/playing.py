"""How the rows of a way are done one after another: what they hand, and what lands.

Held is a dict from the registers to the values that a read sees; it is never changed, each step has
its own one. Flying is an ascending tuple of the writes that have not landed, (l, step, index,
register, value) each.
"""


def entries_of(code):
    """What is held at first."""
    return {name: code.entry(name) for name in code.registers}


def handed_by(code, row, held):
    """What a row hands: for each operation the tuple of the values that its sources read."""
    return tuple([tuple([held[source] for source in operation[2]]) for operation in code.rows[row]])


def after_row(code, row, step, held, flying):
    """What is held and flying when the row was done at this step, and what lands then has landed."""
    issued = [(step + delay, step, index, name, ("made", step, index) if copied is None else held[copied])
              for index, name, delay, copied in code.writes[row]]
    writes = sorted([*flying, *issued])
    due = [write for write in writes if write[0] == step + 1]
    return after_landing(held, due), tuple(writes[len(due):])


def after_landing(held, writes):
    """What is held when these writes, ascending, have landed one after another."""
    later = {name: held[name] for name in held}
    for _, _, _, name, result in writes:
        later[name] = result
    return later


class Run:
    """A way of a code, perhaps with a clash, that is done row by row with some breaks of it."""

    def __init__(self, code, breaks):
        self.code = code
        self.breaks = {moment: True for moment in breaks}
        self.step = 0
        self.flying = ()
        self.held = entries_of(code)

    def do(self, row):
        """Does the next row, and then breaks in if there is a break behind it. Returns what it hands."""
        told = handed_by(self.code, row, self.held)
        self.held, self.flying = after_row(self.code, row, self.step, self.held, self.flying)
        self.step = self.step + 1
        if self.step in self.breaks:
            self.held = after_landing(self.held, self.flying)
            self.flying = ()
        return told

    def do_all(self, rows):
        """Does these rows."""
        for row in rows:
            self.do(row)
