"""Codes: rows of operations for a machine, and which registers begin alike."""

from latelands.checks import within
from latelands.errors import InvalidCode, InvalidText, NoName, NoRow
from latelands.kinds import BARRED_NAME, is_name
from latelands.rows import is_row, parse_row, row_text
from latelands.shape import (following_of, goals_of, held_of, jump_of, leading_of, names_of, reached_by,
                             writes_of)


class Code:
    """A code; it never changes.

    Beside what the interface lists it has these attributes: `following` and `leading`, for each
    row the tuples of its next rows and of the rows before it (these also for the end), `writes` and
    `reached`, as latelands.shape tells them; and `memo`, a dict in which other modules keep what
    they once found out about the code, so that it need not be found anew.
    """

    MOST_ROWS = 40
    MOST_REGISTERS = 8

    def __init__(self, machine, *rows, alike=()):
        check_rows(machine, rows)
        check_goals(machine, rows)
        registers = names_of(rows)
        if len(registers) > Code.MOST_REGISTERS:
            raise InvalidCode("registers", None)
        if not are_groups(registers, alike):
            raise InvalidCode("alike", None)
        self.machine = machine
        self.rows = rows
        self.registers = registers
        self.alike = tuple(sorted([tuple(sorted(group)) for group in alike]))
        self.held = held_of(rows, machine.late)
        self.gaps = tuple([gap for gap in range(len(rows)) if gap not in self.held])
        self.following = following_of(rows, machine.late)
        self.leading = leading_of(self.following)
        self.reached = reached_by(self.following)
        self.writes = writes_of(machine, rows)
        self.reach = max([delay for row in self.writes for _, _, delay, _ in row], default=1)
        self.memo = {}

    @classmethod
    def of(cls, machine, rows, *, alike=()):
        """The code with these rows, a list or tuple."""
        given = rows if isinstance(rows, (list, tuple)) else ()
        return cls(machine, *given, alike=alike)

    @classmethod
    def read(cls, machine, text):
        """The code that the text tells."""
        groups, rows = read_parts(machine, text)
        return cls(machine, *rows, alike=groups)

    def next_rows(self, row):
        """The ascending tuple of the next rows of a row."""
        if not within(row, 0, len(self.rows) - 1):
            raise NoRow(row)
        return self.following[row]

    def rows_before(self, row):
        """The ascending tuple of the rows whose next row it is; the row may be the end."""
        if not within(row, 0, len(self.rows)):
            raise NoRow(row)
        return self.leading[row]

    def delay_of(self, row, index):
        """The delay of an operation, or None."""
        if not within(row, 0, len(self.rows) - 1):
            raise NoRow(row)
        if not within(index, 0, len(self.rows[row]) - 1):
            raise NoRow(index)
        return self.machine.kind(self.rows[row][index][0]).delay

    def entry(self, name):
        """The value of the entry of a register."""
        if name not in self.registers:
            raise NoName(name)
        for group in self.alike:
            if name in group:
                return "start", group[0]
        return "start", name

    def with_row(self, row, operations):
        """The code with another row there and the same groups."""
        if not within(row, 0, len(self.rows) - 1):
            raise NoRow(row)
        rows = [operations if at == row else self.rows[at] for at in range(len(self.rows))]
        return Code(self.machine, *rows, alike=self.alike)

    def __len__(self):
        return len(self.rows)

    def __getitem__(self, at):
        if not within(at, 0, len(self.rows) - 1):
            raise NoRow(at)
        return self.rows[at]

    def __iter__(self):
        return iter(self.rows)

    def __eq__(self, other):
        return (isinstance(other, Code) and self.machine == other.machine
                and self.rows == other.rows and self.alike == other.alike)

    def __repr__(self):
        return f"Code({len(self.rows)} rows, {len(self.registers)} registers)"

    def __str__(self):
        groups = [" ".join([BARRED_NAME, *group]) for group in self.alike]
        return "\n".join([*groups, *[row_text(row) for row in self.rows]])


def check_rows(machine, rows):
    """Refuses a wrong number of rows, and what is no row of the machine."""
    if not 1 <= len(rows) <= Code.MOST_ROWS:
        raise InvalidCode("rows", None)
    for at, row in enumerate(rows):
        if not is_row(machine, row):
            raise InvalidCode("row", at)


def check_goals(machine, rows):
    """Refuses goals beyond the end, and jumps whose late rows are not right."""
    goals = goals_of(rows)
    for at, row in enumerate(rows):
        jump = jump_of(row)
        if jump is not None and jump[3] > len(rows):
            raise InvalidCode("goal", at)
    for at, row in enumerate(rows):
        if jump_of(row) is not None and not are_late_rows(rows, at + 1, at + machine.late, goals):
            raise InvalidCode("late", at)


def are_late_rows(rows, first, last, goals):
    """Whether the rows from first to last can be the late rows of a jump."""
    if last >= len(rows):
        return False
    return all([jump_of(rows[at]) is None and at not in goals for at in range(first, last + 1)])


def are_groups(registers, value):
    """Whether any value tells groups of these registers."""
    if not isinstance(value, (list, tuple)):
        return False
    taken = []
    for group in value:
        if not isinstance(group, (list, tuple)) or len(group) < 2:
            return False
        for name in group:
            if name not in registers or name in taken:
                return False
            taken.append(name)
    return True


def read_parts(machine, text):
    """The lists of the groups and of the rows that the text of a code tells."""
    if not isinstance(text, str):
        raise InvalidText(0, 0)
    groups = []
    rows = []
    lines = text.split("\n")
    for at, line in enumerate(lines):
        if is_group_line(line):
            group, wrong = parse_group(line, groups, rows)
            groups.append(group)
        else:
            row, wrong = parse_row(machine, line)
            rows.append(row)
        if wrong is not None:
            raise InvalidText(at, wrong)
    if len(rows) == 0:
        raise InvalidText(len(lines), 0)
    return groups, rows


def is_group_line(line):
    """Whether a line tells a group, and not a row that writes to a register called so."""
    words = line.split(" ")
    return words[0] == BARRED_NAME and words[1:2] != ["="]


def parse_group(line, groups, rows):
    """The group that the line tells behind these groups and rows, and None.

    If it is wrong: None and the index of its first wrong word.
    """
    if len(rows) > 0:
        return None, 1
    words = line.split(" ")
    taken = [name for group in groups for name in group]
    for at in range(1, len(words)):
        if not is_name(words[at]) or words[at] in taken:
            return None, at
        taken.append(words[at])
    if len(words) < 3:
        return None, len(words)
    return words[1:], None
