"""Which registers are heard at the points of a code, and how soon."""

from latelands.atlas import atlas_of
from latelands.shape import names_read


def hearing_of(code):
    """The hearing of a code, which must not have too many points."""
    if "hearing" not in code.memo:
        code.memo["hearing"] = Hearing(code, atlas_of(code))
    return code.memo["hearing"]


class Hearing:
    """Where registers are heard; a place is a tuple (number of a point, register).

    `counts` has for each place where the register is heard the least number of rows that show it.
    """

    def __init__(self, code, atlas):
        self.atlas = atlas
        self.counts = {}
        readers = [names_read(row) for row in code.rows] + [()]
        for name in code.registers:
            self.listen([(spot, name) for spot, point in enumerate(atlas.spots) if name in readers[point[-1]]])

    def listen(self, places):
        """Notes all places that follow from these, at which the row to come reads a register."""
        queue = list(places)
        for place in places:
            self.counts[place] = 1
        done = 0
        while done < len(queue):
            spot, name = queue[done]
            done = done + 1
            if name not in self.atlas.landing[spot]:
                for before in self.atlas.before[spot]:
                    if (before, name) not in self.counts:
                        self.counts[(before, name)] = self.counts[(spot, name)] + 1
                        queue.append((before, name))

    def rows_from(self, place):
        """A shortest tuple of rows which shows that a register is heard, at a place where it is."""
        told = [self.atlas.spots[place[0]][-1]]
        for left in range(self.counts[place] - 1, 0, -1):
            place = [later for later in self.onward(place) if self.counts.get(later) == left][0]
            told.append(self.atlas.spots[place[0]][-1])
        return tuple(told)

    def onward(self, place):
        """The places of the same register one step on, where no write to it lands just then."""
        spot, name = place
        return [(later, name) for later in self.atlas.after[spot] if name not in self.atlas.landing[later]]

    def quiets(self, places):
        """The ascending tuple of a table of quiets with these places, at none of which the register is heard."""
        found = {place: True for place in places}
        left = list(found)
        while len(left) > 0:
            for later in self.onward(left.pop()):
                if later not in found:
                    found[later] = True
                    left.append(later)
        return tuple([(self.atlas.spots[spot], name) for spot, name in sorted(list(found))])
