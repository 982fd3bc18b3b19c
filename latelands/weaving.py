"""What reads see, the webs of writers, and where webs conflict, for a whole code.

A writer is a write (row, index), or (-1, i) for the entry of the register with the index i.
"""

from latelands.atlas import INDEXES, atlas_of
from latelands.hearing import hearing_of
from latelands.shape import names_read


def weaving_of(code):
    """The weaving of a code, which must have neither too many points nor a clash."""
    if "weaving" not in code.memo:
        code.memo["weaving"] = Weaving(code)
    return code.memo["weaving"]


class Weaving:
    """The webs of a code.

    Attributes: `inside`, for each point, by its number, a dict from the registers to a dict of the
    writers that are in them there on some way; `seen`, a dict from the pairs (row, register) of all
    reads of rows to which a way leads to the ascending tuples of the writers that they see; `webs`, as
    the interface tells them; `web_of`, the dict from the writers to the indexes of their webs; and
    `conflicts`, a dict from the pairs (i, j), i <= j, of webs that conflict to the first point at which
    they do.
    """

    def __init__(self, code):
        self.code = code
        self.atlas = atlas_of(code)
        self.inside = writers_inside(code, self.atlas)
        self.seen = self.all_seen()
        self.webs = webs_among(writers_of(code, self.seen), [self.seen[read] for read in self.seen])
        self.web_of = {writer: index for index, web in enumerate(self.webs) for writer in web}
        self.conflicts = self.all_conflicts()

    def all_seen(self):
        found = {}
        for spot, point in enumerate(self.atlas.spots):
            row = point[-1]
            for name in names_read(self.code.rows[row]) if row < len(self.code) else []:
                writers = found.setdefault((row, name), {})
                for writer in self.inside[spot][name]:
                    writers[writer] = True
        return {read: tuple(sorted(list(found[read]))) for read in found}

    def all_conflicts(self):
        found = {}
        for point in sorted(list(self.atlas.spots), key=lambda each: (len(each), each)):
            kept = sorted(self.kept_webs(self.atlas.spot_of[point]))
            for place, web in enumerate(kept):
                for later in kept[place + 1:]:
                    found.setdefault((web, later), point)
        return found

    def kept_webs(self, spot):
        """The list of the webs of the names that are kept at a point, one for each of these names."""
        point = self.atlas.spots[spot]
        webs = [self.web_of[(point[-1 - back], index)] for back in range(1, len(point))
                for index, _, delay, _ in self.code.writes[point[-1 - back]] if delay >= back]
        counts = hearing_of(self.code).counts
        for name in self.code.registers:
            if (spot, name) in counts and name not in self.atlas.landing[spot]:
                # They are all in one web.
                webs.append(self.web_of[list(self.inside[spot][name])[0]])
        return webs


def writers_inside(code, atlas):
    """For each point a dict from the registers to a dict of the writers that are in them there."""
    found = [{name: {} for name in code.registers} for _ in atlas.spots]
    left = first_inside(code, atlas)
    while len(left) > 0:
        spot, name, writer = left.pop()
        if writer not in found[spot][name]:
            found[spot][name][writer] = True
            left.extend([(later, name, writer) for later in atlas.after[spot] if name not in atlas.landing[later]])
    return found


def first_inside(code, atlas):
    """The list of the (number of a point, register, writer) where a writer comes into a register."""
    found = [(atlas.spot_of[(0,)], name, (-1, index)) for index, name in enumerate(code.registers)]
    for spot, point in enumerate(atlas.spots):
        for name, number in atlas.landing[spot].items():
            found.append((spot, name, (point[-1 - number // INDEXES], number % INDEXES)))
    return found


def writers_of(code, seen):
    """The ascending list of all writers, by what reads see."""
    entries = [writer for read in seen for writer in seen[read] if writer[0] == -1]
    writes = [(row, write[0]) for row in range(len(code)) if row in code.reached for write in code.writes[row]]
    return sorted(set(entries + writes))


def webs_among(writers, together):
    """The ascending tuple of the least classes of writers such that those of each of these tuples are in one."""
    first = {writer: writer for writer in writers}
    for some in together:
        joined = {first[writer]: True for writer in some}
        least = min(list(joined))
        first = {writer: least if first[writer] in joined else first[writer] for writer in first}
    return tuple([tuple([writer for writer in writers if first[writer] == each])
                  for each in writers if first[each] == each])
