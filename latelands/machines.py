"""Machines: the kinds of their operations, how late their jumps are, how wide their rows."""

from latelands.checks import within
from latelands.errors import InvalidMachine, InvalidText, NoName
from latelands.kinds import BARRED_NAME, Copy, Give, Jump, Kind, Make, is_name

MOST_LATE = 2
MOST_WIDTH = 3
HEADS = (("late", ("0", "1", "2")), ("width", ("1", "2", "3")))
DELAYS = ("1", "2", "3", "4", "5", "6")
DELAYED_SORTS = ("make", "copy")
PLAIN_SORTS = ("give", "jump")


class Machine:
    """A machine; it never changes."""

    MOST_KINDS = 12
    MOST_DELAY = 6

    def __init__(self, *kinds, late=0, width=3):
        if not 1 <= len(kinds) <= Machine.MOST_KINDS or not are_kinds(kinds):
            raise InvalidMachine("kinds")
        if len({kind.name for kind in kinds}) < len(kinds):
            raise InvalidMachine("name")
        check_late(late)
        check_width(width)
        self.kinds = kinds
        self.late = late
        self.width = width

    @classmethod
    def of(cls, kinds, *, late=0, width=3):
        """The machine with these kinds, a list or tuple."""
        given = kinds if isinstance(kinds, (list, tuple)) else ()
        return cls(*given, late=late, width=width)

    @classmethod
    def read(cls, text):
        """The machine whose text it is."""
        kinds, late, width = read_parts(text)
        return cls(*kinds, late=late, width=width)

    def kind(self, name):
        """The kind with this name."""
        for kind in self.kinds:
            if kind.name == name:
                return kind
        raise NoName(name)

    def __contains__(self, x):
        return x in [kind.name for kind in self.kinds]

    def __len__(self):
        return len(self.kinds)

    def __eq__(self, other):
        return (isinstance(other, Machine) and self.kinds == other.kinds
                and self.late == other.late and self.width == other.width)

    def __repr__(self):
        return f"Machine({len(self.kinds)} kinds)"

    def __str__(self):
        lines = [kind_line(kind) for kind in self.kinds]
        return "\n".join([f"late {self.late}", f"width {self.width}", *lines])


def check_late(late):
    if not within(late, 0, MOST_LATE):
        raise InvalidMachine("late")


def check_width(width):
    if not within(width, 1, MOST_WIDTH):
        raise InvalidMachine("width")


def are_kinds(values):
    """Whether all values are kinds of one of the four sorts."""
    return all([isinstance(value, Kind) and value.family != "" for value in values])


def kind_line(kind):
    """The line of a kind in the text of a machine."""
    if kind.delay is None:
        return f"{kind.family} {kind.name}"
    return f"{kind.family} {kind.name} {kind.delay}"


def read_parts(text):
    """The list of the kinds, late and width that the text of a machine tells."""
    if not isinstance(text, str):
        raise InvalidText(0, 0)
    lines = [line.split(" ") for line in text.split("\n")]
    for at, (word, choices) in enumerate(HEADS):
        check_line(at, wrong_in_head(words_at(lines, at), word, choices))
    kinds = []
    first = len(HEADS)
    # There must be a kind, so the first one's line is asked for even behind the end of the text.
    for at in range(first, max(first + 1, len(lines))):
        check_line(at, wrong_in_kind(words_at(lines, at), kinds))
        kinds.append(read_kind(lines[at]))
    return kinds, int(lines[0][1]), int(lines[1][1])


def words_at(lines, at):
    """The words of a line, which must be there."""
    if at >= len(lines):
        raise InvalidText(len(lines), 0)
    return lines[at]


def check_line(at, wrong):
    """Refuses the line if it has a wrong word, of which the index is told."""
    if wrong is not None:
        raise InvalidText(at, wrong)


def wrong_in_head(words, word, choices):
    """The index of the first wrong word in a line of a word and a number, or None."""
    if words[0] != word:
        return 0
    if len(words) < 2 or words[1] not in choices:
        return 1
    return 2 if len(words) > 2 else None


def wrong_in_kind(words, kinds):
    """The index of the first wrong word in the line of a kind behind these kinds, or None."""
    delayed = words[0] in DELAYED_SORTS
    if len(kinds) == Machine.MOST_KINDS or not (delayed or words[0] in PLAIN_SORTS):
        return 0
    if len(words) < 2 or not is_free(words[1], kinds):
        return 1
    if delayed and (len(words) < 3 or words[2] not in DELAYS):
        return 2
    right = 3 if delayed else 2
    return right if len(words) > right else None


def is_free(word, kinds):
    """Whether one more kind beside these can have this name."""
    return is_name(word) and word != BARRED_NAME and word not in [kind.name for kind in kinds]


def read_kind(words):
    """The kind that the words of a right line tell."""
    if words[0] == "make":
        return Make(words[1], int(words[2]))
    if words[0] == "copy":
        return Copy(words[1], int(words[2]))
    if words[0] == "give":
        return Give(words[1])
    return Jump(words[1])
