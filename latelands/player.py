"""Players: codes that are played row by row, with breaks, trials, and deeds that can be undone."""

from latelands.checks import within
from latelands.errors import Ended, HeldGap, InvalidLimit, NoName, NothingToUndo, NoWay, TooMany
from latelands.playing import after_landing, after_row, entries_of, handed_by

MOST_STEPS = 1000


class Player:
    """Plays a code, also one with a clash.

    Beside what the interface lists it keeps what is held and what is coming, as latelands.playing
    tells them, and for each deed what there was ahead of it.
    """

    def __init__(self, code, *, most=200):
        if not within(most, 0, MOST_STEPS):
            raise InvalidLimit(most)
        self.code = code
        self.way = ()
        self.step = 0
        self.row = 0
        self.ended = False
        self.breaks = ()
        self.flying = ()
        self.events = ()
        self._most = most
        self._held = entries_of(code)
        self._coming = ()
        self._past = ()

    @property
    def most(self):
        return self._most

    @most.setter
    def most(self, value):
        self.set_most(value)

    def set_most(self, value):
        """Sets the most; this is no deed."""
        if not within(value, self.step, MOST_STEPS):
            raise InvalidLimit(value)
        self._most = value

    def go(self, to=None):
        """Does the row to come and goes on to its next row `to`. Returns what the row hands."""
        row = self.row
        following = self._next_row(to)
        if self.step >= self._most:
            raise TooMany(self._most)
        told = handed_by(self.code, row, self._held)
        held, coming = after_row(self.code, row, self.step, self._held, self._coming)
        self._note(("go", following))
        self.way = self.way + (row,)
        self._stand(following, held, coming)
        return told

    def _next_row(self, to):
        """The next row that is meant, None if there is only one."""
        if self.ended:
            raise Ended()
        following = self.code.following[self.row]
        if to is None and len(following) == 1:
            return following[0]
        if not within(to, 0, len(self.code)) or to not in following:
            raise NoWay(to)
        return to

    def break_in(self):
        """A break ahead of the row to come. Returns the landings that it brings about."""
        if self.ended:
            raise Ended()
        if self.row in self.code.held:
            raise HeldGap(self.row)
        if self.step == 0 or self.step in self.breaks[-1:]:
            return ()
        landed = tuple([(self.step,) + write for write in self.flying])
        self._note(("break",))
        self.breaks = self.breaks + (self.step,)
        self._stand(self.row, after_landing(self._held, self._coming), ())
        return landed

    def _note(self, event):
        """Notes a deed that is about to be done, and what there is ahead of it."""
        self._past = self._past + ((len(self.way), len(self.breaks), self.row, self._held, self._coming),)
        self.events = self.events + (event,)

    def _stand(self, row, held, coming):
        """Sets all that follows from the way and from what is told here."""
        self.step = len(self.way)
        self.row = row
        self.ended = row == len(self.code)
        self._held = held
        self._coming = coming
        self.flying = tuple([write[:4] for write in coming])

    def sees(self, name):
        """The value that a read of the register would see now."""
        if name not in self.code.registers:
            raise NoName(name)
        return self._held[name]

    def undo(self, count=1):
        """Takes back so many of the last deeds."""
        if not within(count, 1, len(self.events)):
            raise NothingToUndo(count)
        left = len(self.events) - count
        steps, breaks, row, held, coming = self._past[left]
        self.events = self.events[:left]
        self._past = self._past[:left]
        self.way = self.way[:steps]
        self.breaks = self.breaks[:breaks]
        self._stand(row, held, coming)

    def trial(self):
        """For a with statement, behind which the player is as it was when the block began."""
        return Trial(self)

    def on_trial(self, *events):
        """Does these deeds, takes them back, and returns what the goes among them returned."""
        told = []
        with self.trial():
            for event in list(events):
                if event[0] == "go":
                    told.append(self.go(event[1]))
                else:
                    self.break_in()
        return tuple(told)

    def twin(self):
        """Another player with the same code, deeds and most."""
        other = Player(self.code, most=self._most)
        other.way = self.way
        other.breaks = self.breaks
        other.events = self.events
        other._past = self._past
        other._stand(self.row, self._held, self._coming)
        return other

    def __eq__(self, other):
        return isinstance(other, Player) and self.code == other.code and self.events == other.events

    def __len__(self):
        return len(self.way)

    def __repr__(self):
        return f"Player({self.step} steps, {len(self.breaks)} breaks)"


class Kept:
    """What a player was when a block began, and what was kept of it for the block around."""

    def __init__(self, player, older):
        self.older = older
        self.way = player.way
        self.step = player.step
        self.row = player.row
        self.ended = player.ended
        self.breaks = player.breaks
        self.flying = player.flying
        self.events = player.events
        self._most = player._most
        self._held = player._held
        self._coming = player._coming
        self._past = player._past


class Trial:
    """Gives a player back as it was when the block began, whatever happened inside."""

    def __init__(self, player):
        self.player = player
        self.kept = None

    def __enter__(self):
        self.kept = Kept(self.player, self.kept)
        return self.player

    def __exit__(self, kind, value, trace):
        self.player.way = self.kept.way
        self.player.step = self.kept.step
        self.player.row = self.kept.row
        self.player.ended = self.kept.ended
        self.player.breaks = self.kept.breaks
        self.player.flying = self.kept.flying
        self.player.events = self.kept.events
        self.player._most = self.kept._most
        self.player._held = self.kept._held
        self.player._coming = self.kept._coming
        self.player._past = self.kept._past
        self.kept = self.kept.older
