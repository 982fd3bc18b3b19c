"""The worked examples of DOC.md, and values that fit nowhere."""

from latelands.codes import Code
from latelands.errors import NoRow
from latelands.kinds import Copy, Give, Jump, Kind, Make
from latelands.machines import Machine
from latelands.player import Player
from latelands.ways import ways

M_TEXT = "late 1\nwidth 2\nmake calc 2\nmake slow 5\ncopy move 5\ngive send\njump go"
M = Machine.read(M_TEXT)
A_TEXT = "alike r s\nr = move s\n-\nr = calc\nsend r"
A = Code.read(M, A_TEXT)
D_TEXT = "r = slow\nsend r\ngo 0 c\n-"
D = Code.read(M, D_TEXT)
# All sorts, jumps at once, and three operations in a row.
N = Machine.read("late 0\nwidth 3\ncopy keep 3\ncopy move 6\ncopy quick 1\nmake calc 1\ngive send\njump go")
L_TEXT = ("alike q r s\nsend r ; r = keep s ; go 3 c\nq = calc\nr = move s ; go 0\nr = keep q\n"
          "q = quick s ; go 0")
L = Code.read(N, L_TEXT)


def hasty(code):
    """The same rows for a machine whose results all land after one step."""
    kinds = [Make(kind.name, 1) if kind.family == "make" else Copy(kind.name, 1) if kind.family == "copy" else kind
             for kind in code.machine.kinds]
    return Code.of(Machine(*kinds, late=code.machine.late, width=code.machine.width), code.rows, alike=code.alike)


def put_ahead(code, many):
    """The code with so many rows without operations ahead of it, and which row each row stands for."""
    rows = [tuple(operation[:3] + (None if operation[3] is None else operation[3] + many,) for operation in row)
            for row in code.rows]
    return (Code.of(code.machine, [()] * many + rows, alike=code.alike), (None,) * many + tuple(range(len(rows))))


def nested(value, deep):
    for _ in range(deep):
        value = (value,)
    return value


def odd_values():
    """Values of all the forms that "any value" can have, fresh ones each time."""
    return [
        None, True, False, -1, 10 ** 59, -10 ** 59, "", " ", "\n", "r s", "R", "~" * 6000, (), [], {},
        (None,), [None], {"r": 1}, ((),), [[]], ("r",), ["r"], (True,), [True], nested(1, 20),
        tuple(range(2000)), {"late": {"r": [1, (2, None)]}}, Make("calc", 2), Kind("calc"), Give("send"),
        Copy("move", 5), Jump("go"), Machine(Give("send")), Code(Machine(Give("send")), ()),
        Player(Code(Machine(Give("send")), ())), Player(Code(Machine(Give("send")), ())).trial(), NoRow(1),
    ]


def machine_with(late=0, width=3):
    """All sorts, with makes and copies of the delays 1, 2, 3 and 6."""
    return Machine(Make("one", 1), Make("two", 2), Make("three", 3), Make("six", 6), Copy("keep", 1), Copy("move", 2),
                   Copy("far", 6), Give("send"), Jump("go"), late=late, width=width)


def code_of(text, late=0, width=3):
    """A code for that machine; its lines may be parted by ` / `."""
    return Code.read(machine_with(late, width), text.replace(" / ", "\n"))


def jumping(goals, first="a = six"):
    """A code whose rows jump to these goals or go on; a None is a row without a jump."""
    rows = ["send c" if goal is None else f"go {goal} c" for goal in goals]
    return code_of("\n".join([f"{first} ; {rows[0]}"] + rows[1:]))


# The goals of codes with 800 points and with 801.
GOALS_800 = [2, None, 9, 7, 8, 0, 12, 2, 4, 14, 3, 1, None, 3, 3, 11, 10]
GOALS_801 = [14, 0, 11, 0, 0, 1, None, 3, 14, 6, 6, 11, 8, 0, 1, 8]


def clashing(goals, late):
    """The same code, but one row that comes so many steps after the row 0 writes what lands together."""
    code = jumping(goals)
    row = list(ways(code, late + 1))[0][-1]
    operation = ({3: "three", 4: "two", 5: "one"}[late], "a", (), None)
    return code.with_row(row, (operation,) + code[row])


# Copies that land late, and makes that land ahead of them.
T = Machine(Copy("move", 4), Copy("far", 5), Copy("hold", 2), Make("calc", 2), Make("slow", 6), Give("send"), Jump("go"))
# Rows with one bad pair, their own rows 1 and 2, and with two, (1, 3) and (2, 3), that leave r and s alike.
TWO = "r = move s / r = calc / send r / r = hold s"
THREE = "r = far s / - / r = calc / send r / r = hold s"
# Three gaps, each two of which are a bad pair, and some more of them; the gap 0 is bad alone.
ROUND_TEXT = ("alike a b / a = two a / send b / a = calc ; go 0 b / b = six b / a = six a ; send b / b = once / send b / "
              "send a ; a = two b / send a")
ROUND = Code.read(Machine(Copy("two", 2), Copy("six", 6), Make("calc", 2), Make("once", 3), Give("send"), Jump("go")),
                  ROUND_TEXT.replace(" / ", "\n"))


def tied(*parts):
    """A code of such rows one behind another."""
    return Code.read(T, "alike r s\n" + " / ".join(parts).replace(" / ", "\n"))


def tied_loop(many, turned=False):
    """So many of the rows TWO, and behind them a loop in which one gap is a bad pair with itself and with others.

    These others are greater gaps, or lesser ones in a turned loop.
    """
    machine = Machine(Copy("move", 4), Copy("hold", 2), Make("calc", 2), Copy("keep", 3), Copy("long", 6), Copy("quick", 1),
                      Make("now", 1), Give("send"), Jump("go"))
    first = 4 * many + 1
    loop = (f"- / send r ; r = keep s ; go {first + 3} c / q = now / r = long s ; go {first} / r = keep q / "
            f"q = quick s ; go {first}")
    if turned:
        first += 3
        loop = (f"- / go {first} / r = keep q / q = quick s ; go {first} / send r ; r = keep s ; go {first - 2} c / "
                f"q = now / r = long s ; go {first}")
    return Code.read(machine, " / ".join(["alike q r s"] + [TWO] * many + [loop]).replace(" / ", "\n"))


def straight(text):
    """A code for the machine T, its lines parted by ` / `."""
    return Code.read(T, text.replace(" / ", "\n"))


# The goals of a code of forty rows with 796 points.
WIDE_GOALS = [None, None, 8, 37, None, 4, 20, 23, 14, 17, 15, 21, None, 10, 10, 19, None, None, 5, 40, 18, 32, 19, None, 7,
              35, None, None, 34, None, 33, None, None, None, 37, 27, 28, None, 18, 34]
WIDE_DELAYS = {"a": "six", "b": "five", "c": "two", "d": "six", "e": "five", "f": "six", "g": "two", "h": "five"}


def wide(*makes):
    """That code; its rows are full of copies, but for makes in these rows. All registers begin alike."""
    machine = Machine(Copy("two", 2), Copy("five", 5), Copy("six", 6), Make("calc", 6), Give("send"), Jump("go"))
    names = "abcdefgh"
    rows = []
    for at, goal in enumerate(WIDE_GOALS):
        row = [] if goal is None else [("go", None, (names[at % 8],), goal)]
        one, other = names[at * 3 % 8], names[(at * 3 + 1) % 8]
        if at in makes:
            row.append(("calc", "a", (), None))
        else:
            row.append((WIDE_DELAYS[one], one, (names[(at * 5 + 1) % 8],), None))
        if at % 4 == 3:
            row.append(("send", None, (names[at // 4 % 8],), None))
        elif at not in makes or other != "a":
            row.append((WIDE_DELAYS[other], other, (names[(at * 5 + 2) % 8],), None))
        rows.append(tuple(row))
    return Code.of(machine, rows, alike=[tuple(names)])


def slow_code():
    """The code of 22 rows that the alike of two names was slow for."""
    machine = Machine(Make("slow", 5), Copy("mv", 3), Give("out"), Jump("go"), late=0, width=3)
    rows = [(("go", None, ("c",), (3 * row + 2) % 22),) for row in range(22)]
    for row, operation in ((0, ("slow", "w", (), None)), (3, ("out", None, ("r", "s"), None)),
                           (5, ("mv", "r", ("t",), None)), (9, ("mv", "s", ("u",), None)),
                           (12, ("mv", "t", ("s",), None)), (15, ("mv", "u", ("r",), None))):
        rows[row] = (operation,) + rows[row]
    return Code.of(machine, rows, alike=[("r", "s", "t", "u")])


def twisted(value):
    """The value with one of its parts made a list instead of a tuple, or True or False instead of 1 or 0."""
    if isinstance(value, tuple):
        yield list(value)
        for at, part in enumerate(value):
            for other in twisted(part):
                yield value[:at] + (other,) + value[at + 1:]
    elif isinstance(value, int) and value in (0, 1):
        yield bool(value)


def spoilt(value):
    """The value with one of its parts left out, twice, or made something else."""
    if isinstance(value, tuple):
        for at, part in enumerate(value):
            yield value[:at] + value[at + 1:]
            yield value[:at] + (part,) + value[at:]
            for other in spoilt(part):
                yield value[:at] + (other,) + value[at + 1:]
    elif isinstance(value, int):
        yield value + 1
        yield -value - 1
    for other in (None, "x", (), {"r": 1}, (value,), 10 ** 59):
        yield other
