"""A desk at which codes are written, judged and played by lines of words."""

from latelands.codes import Code
from latelands.errors import InvalidMachine, NoRow, NothingToUndo, TooMany, UnknownCommand
from latelands.judge import bad_gaps, bad_pairs, judge
from latelands.lines import words_of
from latelands.listing import listing
from latelands.machines import Machine, check_late, check_width, read_kind
from latelands.mending import mended
from latelands.player import Player
from latelands.registers import fewest
from latelands.rows import read_row
from latelands.shut import least_shut
from latelands.waiting import longest_wait, shortest_wait

NONE = "none"
DONE = "ok"
MOST_STEPS = 200


def say_late(desk, words):
    late = int(words[0])
    check_late(late)
    refuse_rows(desk)
    desk.late = late
    return DONE


def say_width(desk, words):
    width = int(words[0])
    check_width(width)
    refuse_rows(desk)
    desk.width = width
    return DONE


def say_kind(desk, words):
    added = read_kind(words)
    if added.name in [kind.name for kind in desk.kinds]:
        raise InvalidMachine("name")
    if len(desk.kinds) == Machine.MOST_KINDS:
        raise InvalidMachine("kinds")
    refuse_rows(desk)
    desk.kinds = desk.kinds + (added,)
    return DONE


def refuse_rows(desk):
    """Refuses another machine once there are rows for the one that is there."""
    if len(desk.rows) > 0:
        raise NoRow(0)


def say_row(desk, words):
    row = read_row(machine_of(desk), words[0])
    if len(desk.rows) == Code.MOST_ROWS:
        raise TooMany(Code.MOST_ROWS)
    begin_anew(desk, desk.rows + (row,), desk.groups)
    return str(len(desk.rows) - 1)


def say_drop(desk, words):
    if len(desk.rows) == 0:
        raise NothingToUndo(1)
    begin_anew(desk, desk.rows[:-1], desk.groups)
    return DONE


def say_alike(desk, words):
    begin_anew(desk, desk.rows, desk.groups + (tuple(words),))
    return DONE


def begin_anew(desk, rows, groups):
    """Gives the desk these rows and groups; what it has made of the old ones ends."""
    desk.rows = rows
    desk.groups = groups
    desk.code = None
    desk.player = None


def machine_of(desk):
    """The machine of the desk, which must have kinds."""
    return Machine(*desk.kinds, late=desk.late, width=desk.width)


def code_of(desk):
    """The code of the rows and groups of the desk."""
    if desk.code is None:
        desk.code = Code(machine_of(desk), *desk.rows, alike=desk.groups)
    return desk.code


def player_of(desk):
    """The player of the desk; it is made when it is wanted."""
    code = code_of(desk)
    if desk.player is None:
        desk.player = Player(code, most=MOST_STEPS)
    return desk.player


def say_code(desk, words):
    return in_one_line(code_of(desk))


def in_one_line(code):
    """The text of a code, its lines in one."""
    return " / ".join(str(code).split("\n"))


def say_list(desk, words):
    return listing(code_of(desk))


def say_bad(desk, words):
    code = code_of(desk)
    return joined([str(gap) for gap in bad_gaps(code)] + [f"{low}-{high}" for low, high in bad_pairs(code)], " ")


def say_judge(desk, words):
    gaps = [int(word) for word in words]
    told = judge(code_of(desk), *gaps)
    if told[0] == "open":
        return told[0]
    word, way, breaks, change = told
    return " ".join([word, numbers_text(way, ","), numbers_text(breaks, ","), numbers_text(change, " ")])


def say_shut(desk, words):
    return numbers_text(least_shut(code_of(desk))[0], " ")


def say_wait(desk, words):
    code = code_of(desk)
    if words == ["least"]:
        count = shortest_wait(code)[0]
    else:
        count = longest_wait(code, [int(word) for word in words])[0]
    return "ever" if count is None else str(count)


def say_registers(desk, words):
    told = fewest(code_of(desk))
    if told[0] == "never":
        return told[0]
    return str(max(told[1], default=-1) + 1)


def say_mend(desk, words):
    told = mended(code_of(desk))
    return told[0] if told[0] == "never" else in_one_line(told[2])


def say_go(desk, words):
    player = player_of(desk)
    handed = player.go() if len(words) == 0 else player.go(int(words[0]))
    return joined([told_text(values) for values in handed], " ")


def say_break(desk, words):
    player_of(desk).break_in()
    return DONE


def say_undo(desk, words):
    player_of(desk).undo()
    return DONE


def say_value(desk, words):
    return value_text(player_of(desk).sees(words[0]))


def say_way(desk, words):
    return numbers_text(player_of(desk).way, ",")


def told_text(values):
    """What one operation is handed."""
    return ",".join([value_text(value) for value in values]) if len(values) > 0 else "-"


def value_text(value):
    return ":".join([str(part) for part in value])


def numbers_text(numbers, sign):
    """Numbers with a sign between them, or the word for none."""
    return joined([str(number) for number in numbers], sign)


def joined(texts, sign):
    """Texts with a sign between them, or the word for none."""
    return sign.join(texts) if len(texts) > 0 else NONE


# What the lines do that set the machine, and what those do that want one; all by their first words.
SETTINGS = {"late": say_late, "width": say_width, "kind": say_kind}
ACTIONS = {
    "row": say_row, "drop": say_drop, "alike": say_alike, "code": say_code, "list": say_list, "bad": say_bad,
    "judge": say_judge, "shut": say_shut, "wait": say_wait, "registers": say_registers, "mend": say_mend, "go": say_go,
    "break": say_break, "undo": say_undo, "value": say_value, "way": say_way,
}


class Desk:
    """A machine, rows and groups that lines set, and what they ask of the code that these make.

    Attributes: `late`, `width`, `kinds`, `rows`, `groups`; `code` and `player`, which are None until
    they are wanted, and again when the rows or groups are others.
    """

    def __init__(self):
        self.late = 0
        self.width = 3
        self.kinds = ()
        self.rows = ()
        self.groups = ()
        self.code = None
        self.player = None

    def say(self, line):
        """Carries out a line, and returns its answer."""
        words = words_of(line)
        if words is None:
            raise UnknownCommand(line)
        if words[0] in SETTINGS:
            setting = SETTINGS[words[0]]
            return setting(self, words[1:])
        if len(self.kinds) == 0:
            raise InvalidMachine("kinds")
        action = ACTIONS[words[0]]
        return action(self, words[1:])

    def say_all(self, *lines):
        """Yields the answers of several lines; each line is carried out when its answer is asked for."""
        for line in lines:
            yield self.say(line)
