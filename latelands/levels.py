"""Which names are alike on all ways of so many rows and fewer, for all points of a code at once."""

from latelands.atlas import NAMES, PAIRS, atlas_of
from latelands.ways import shortest_way_to_point


def levels_of(code):
    """The levels of a code, which must have neither too many points nor a clash."""
    if "levels" not in code.memo:
        code.memo["levels"] = Levels(atlas_of(code))
    return code.memo["levels"]


def is_known_unlike(code, pair):
    """Whether the names of a pair are unlike by what was found before; no levels are made for this."""
    return "levels" in code.memo and code.memo["levels"].rows_to(pair) is not None


class Levels:
    """For each point the classes of names that are alike on the ways to it, by the rows of the ways.

    The points are those of an atlas, or the spots of another field with `spots` and `after`.

    `history` has for each point the list of the pairs (rows, classes) with a number of rows and a
    dict from the names at the point to one name of their class: names are alike on all ways of so
    many rows and fewer, up to the next number in the list, exactly if they are of one class. The
    first number is that of the rows of a shortest way to the point.
    """

    def __init__(self, atlas):
        self.atlas = atlas
        self.history = [[] for _ in atlas.spots]
        fresh = [(0, classes_at(atlas.was[0], []))]
        rows = 0
        # Ways of one row more can tell names apart only behind points where names were told apart just now.
        while len(fresh) > 0:
            for spot, classes in fresh:
                self.history[spot].append((rows, classes))
            touched = {later: True for spot, _ in fresh for later in atlas.after[spot]}
            fresh = [(spot, self.classes_behind(spot)) for spot in touched]
            fresh = [(spot, classes) for spot, classes in fresh if not self.has(spot, classes)]
            rows = rows + 1

    def classes_behind(self, spot):
        """The classes at a point on the ways over the points before it as far as they are known."""
        known = [self.history[before][-1][1] for before in self.atlas.before[spot] if len(self.history[before]) > 0]
        return classes_at(self.atlas.was[spot], known)

    def has(self, spot, classes):
        """Whether these are the last classes that are known of a point."""
        return len(self.history[spot]) > 0 and self.history[spot][-1][1] == classes

    def last_classes(self, spot):
        """The ascending list of the classes at a point, on all ways, each an ascending list."""
        classes = self.history[spot][-1][1]
        return [[name for name in classes if classes[name] == first] for first in classes if classes[first] == first]

    def rows_to(self, pair):
        """The number of the rows of a shortest way on which the names of a pair are unlike, None if alike."""
        spot = pair // PAIRS
        one = pair // NAMES % NAMES
        other = pair % NAMES
        for rows, classes in self.history[spot]:
            if classes[one] != classes[other]:
                return rows
        return None

    def trail_to(self, pair):
        """The list of the numbers of the points over which a shortest way leads on which a pair's names are unlike.

        The first one is the point at which they begin to be unlike, the last one is that of the pair.
        """
        trail = [pair // PAIRS]
        earlier = self.atlas.earlier(pair)
        while earlier is not None:
            rows = self.rows_to(pair) - 1
            pair = [each for each in earlier if self.rows_to(each) == rows][0]
            trail.append(pair // PAIRS)
            earlier = self.atlas.earlier(pair)
        return trail[::-1]

    def way_to(self, code, pair):
        """A shortest way to the point of a pair of this code on which its names are unlike."""
        trail = [self.atlas.spots[spot] for spot in self.trail_to(pair)]
        return shortest_way_to_point(code, trail[0]) + tuple([point[-1] for point in trail[:-1]])


def classes_at(was, known):
    """The classes of the names at a point, by what they were and the classes at the points before."""
    first_of = {}
    classes = {}
    for name, earlier in was.items():
        # What is new is less than 0, and so in no class of a point before.
        key = earlier if earlier < 0 else tuple([each[earlier] for each in known])
        classes[name] = first_of.setdefault(key, name)
    return classes
