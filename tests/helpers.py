"""The worked examples of DOC.md, and values that fit nowhere."""

from latelands.codes import Code
from latelands.kinds import Copy, Give, Jump, Kind, Make
from latelands.machines import Machine
from latelands.ways import ways

M_TEXT = "late 1\nwidth 2\nmake calc 2\nmake slow 5\ncopy move 5\ngive send\njump go"
M = Machine.read(M_TEXT)
A_TEXT = "alike r s\nr = move s\n-\nr = calc\nsend r"
A = Code.read(M, A_TEXT)
D_TEXT = "r = slow\nsend r\ngo 0 c\n-"
D = Code.read(M, D_TEXT)
# All sorts, jumps at once, and three operations in a row.
N = Machine.read("late 0\nwidth 3\ncopy keep 3\ncopy move 6\ncopy quick 1\nmake calc 1\ngive send\njump go")
L_TEXT = ("alike q r s\nsend r ; r = keep s ; go 3 c\nq = calc\nr = move s ; go 0\nr = keep q\n"
          "q = quick s ; go 0")
L = Code.read(N, L_TEXT)


def nested(value, deep):
    for _ in range(deep):
        value = (value,)
    return value


def odd_values():
    """Values of all the forms that "any value" can have, fresh ones each time."""
    return [
        None, True, False, -1, 10 ** 59, -10 ** 59, "", " ", "\n", "r s", "R", "~" * 6000, (), [], {},
        (None,), [None], {"r": 1}, ((),), [[]], ("r",), ["r"], (True,), [True], nested(1, 20),
        tuple(range(2000)), {"late": {"r": [1, (2, None)]}}, Make("calc", 2), Kind("calc"), Give("send"),
        Copy("move", 5), Jump("go"), Machine(Give("send")), Code(Machine(Give("send")), ()),
    ]


def machine_with(late=0, width=3):
    """All sorts, with makes and copies of the delays 1, 2, 3 and 6."""
    return Machine(Make("one", 1), Make("two", 2), Make("three", 3), Make("six", 6), Copy("keep", 1), Copy("move", 2),
                   Copy("far", 6), Give("send"), Jump("go"), late=late, width=width)


def code_of(text, late=0, width=3):
    """A code for that machine; its lines may be parted by ` / `."""
    return Code.read(machine_with(late, width), text.replace(" / ", "\n"))


def jumping(goals, first="a = six"):
    """A code whose rows jump to these goals or go on; a None is a row without a jump."""
    rows = ["send c" if goal is None else f"go {goal} c" for goal in goals]
    return code_of("\n".join([f"{first} ; {rows[0]}"] + rows[1:]))


# The goals of codes with 800 points and with 801.
GOALS_800 = [2, None, 9, 7, 8, 0, 12, 2, 4, 14, 3, 1, None, 3, 3, 11, 10]
GOALS_801 = [14, 0, 11, 0, 0, 1, None, 3, 14, 6, 6, 11, 8, 0, 1, 8]


def clashing(goals, late):
    """The same code, but one row that comes so many steps after the row 0 writes what lands together."""
    code = jumping(goals)
    row = list(ways(code, late + 1))[0][-1]
    operation = ({3: "three", 4: "two", 5: "one"}[late], "a", (), None)
    return code.with_row(row, (operation,) + code[row])
