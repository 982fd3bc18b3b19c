"""The kinds of operations that a machine can have."""

from latelands.checks import within
from latelands.errors import InvalidMachine

LONGEST_NAME = 8
LONGEST_DELAY = 6
# A line of a code that begins with this word tells which registers begin alike.
BARRED_NAME = "alike"


def is_name(value):
    """Whether any value is a name: 1 to 8 letters from a to z."""
    if not isinstance(value, str) or not 1 <= len(value) <= LONGEST_NAME:
        return False
    return all(["a" <= letter <= "z" for letter in value])


def check_delay(delay):
    if not within(delay, 1, LONGEST_DELAY):
        raise InvalidMachine("delay")


class Kind:
    """The base class of the four sorts; an object of this class itself has no sort."""

    def __init__(self, name):
        if not is_name(name) or name == BARRED_NAME:
            raise InvalidMachine("name")
        self.name = name
        self.delay = None
        self.family = ""

    def __eq__(self, other):
        return (isinstance(other, Kind) and self.family == other.family
                and self.name == other.name and self.delay == other.delay)

    def __repr__(self):
        return f"Kind({self.name!r})"


class Make(Kind):
    """Makes a new value each time, which lands delay steps later."""

    def __init__(self, name, delay):
        super().__init__(name)
        check_delay(delay)
        self.delay = delay
        self.family = "make"

    def __eq__(self, other):
        return isinstance(other, Make) and self.name == other.name and self.delay == other.delay

    def __repr__(self):
        return f"Make({self.name!r}, {self.delay})"


class Copy(Kind):
    """Copies the value that it reads, which lands delay steps later."""

    def __init__(self, name, delay):
        super().__init__(name)
        check_delay(delay)
        self.delay = delay
        self.family = "copy"

    def __eq__(self, other):
        return isinstance(other, Copy) and self.name == other.name and self.delay == other.delay

    def __repr__(self):
        return f"Copy({self.name!r}, {self.delay})"


class Give(Kind):
    """Hands values to the world."""

    def __init__(self, name):
        super().__init__(name)
        self.family = "give"

    def __eq__(self, other):
        return isinstance(other, Give) and self.name == other.name

    def __repr__(self):
        return f"Give({self.name!r})"


class Jump(Kind):
    """Jumps to a row: always, or as the world says."""

    def __init__(self, name):
        super().__init__(name)
        self.family = "jump"

    def __eq__(self, other):
        return isinstance(other, Jump) and self.name == other.name

    def __repr__(self):
        return f"Jump({self.name!r})"
