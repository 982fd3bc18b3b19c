"""The points of a code and the names at them, by numbers, so that much can be asked of them fast.

Points are numbered in ascending order, names as the functions below say, in ascending order too. A
pair of two different names at a point, one less than other, is the number that `pair_of` tells, so
pairs are in the order of the tuples (point, one, other) that they stand for.
"""

from latelands.ways import following_points, list_points

# As many indexes as operations in a row can have.
INDEXES = 3
# The number of each ("by", k, j) is less, as k is at most 6.
FIRST_IN = 21
# More numbers than there are names at a point. Where a second code is held beside a code, the names of
# the second one have these numbers more.
ASIDE = 32
# As many numbers as there are for the names of two codes.
NAMES = 64
# As many numbers as two names have together: NAMES times NAMES.
PAIRS = 4096


def by_number(back, index):
    """The number of the name ("by", back, index)."""
    return INDEXES * back + index


def pair_of(spot, one, other):
    """The number of a pair: the number of a point and those of two names."""
    return (spot * NAMES + min(one, other)) * NAMES + max(one, other)


def atlas_of(code):
    """The atlas of a code, which must not have too many points."""
    if "atlas" not in code.memo:
        code.memo["atlas"] = Atlas(code)
    return code.memo["atlas"]


class Field:
    """Places, called spots, at which names were names at the spots before; the classes below are such.

    They have the attributes `before`, for each spot the list of the numbers of the spots before it, and
    `was`, for each spot a dict from the numbers of the names at it to what they were: the number of a
    name, or one less than 0 if it is new. Names that were the same have the same number, also if they
    are new.
    """

    def earlier(self, pair):
        """The pairs that these names were, none if they are alike here, or None if unlike here."""
        spot = pair // PAIRS
        was = self.was[spot]
        one = was[pair // NAMES % NAMES]
        other = was[pair % NAMES]
        if one == other:
            return []
        if one < 0 or other < 0:
            return None
        names = pair_of(0, one, other)
        return [before * PAIRS + names for before in self.before[spot]]

    def closed(self, pairs):
        """The ascending list of these pairs and of all that they were, or None if one of them is unlike."""
        found = {pair: True for pair in pairs}
        left = list(found)
        # As `earlier` tells, but written out: this is done for very many pairs.
        while len(left) > 0:
            pair = left.pop()
            spot = pair // PAIRS
            was = self.was[spot]
            one = was[pair // NAMES % NAMES]
            other = was[pair % NAMES]
            if one == other:
                continue
            if one < 0 or other < 0:
                return None
            names = one * NAMES + other if one < other else other * NAMES + one
            for before in self.before[spot]:
                was_pair = before * PAIRS + names
                if was_pair not in found:
                    found[was_pair] = True
                    left.append(was_pair)
        return sorted(list(found))


class Atlas(Field):
    """What is asked of the points of a code again and again.

    Attributes: `spots`, the tuple of the points; `spot_of`, the dict from a point to its number;
    `after` and `before`, for each point the lists of the numbers of the points after it and before
    it; `name_of` and `number_of`, the dicts between the numbers of names and names; `holders`, the
    list of the pairs (number of the name, register) of the names ("in", r); `was`, as in a field;
    `landing`, for each point a dict from the registers to which a write lands just there to that
    write, a name. At the point (0,) all names are new, those of one group the same.
    """

    def __init__(self, code):
        self.spots = tuple(sorted(list_points(code)))
        self.spot_of = {point: spot for spot, point in enumerate(self.spots)}
        self.after = [[self.spot_of[later] for later in following_points(code, point)] for point in self.spots]
        self.before = befores(self.after)
        self.name_of = numbered_names(code)
        self.number_of = {self.name_of[number]: number for number in self.name_of}
        self.holders = [(self.number_of[("in", name)], name) for name in code.registers]
        self.landing = [landings_at(code, point) for point in self.spots]
        self.was = [self.was_at(code, spot) for spot in range(len(self.spots))]

    def was_at(self, code, spot):
        """What the names at a point were."""
        point = self.spots[spot]
        if point == (0,):
            return self.was_at_first(code)
        was = {}
        # In ascending order of the names.
        for index, _, _, copied in code.writes[point[-2]]:
            was[by_number(1, index)] = -1 - index if copied is None else self.number_of[("in", copied)]
        for back in range(2, len(point)):
            for index, _, _, _ in code.writes[point[-1 - back]]:
                was[by_number(back, index)] = by_number(back - 1, index)
        landing = self.landing[spot]
        for number, name in self.holders:
            was[number] = was[landing[name]] if name in landing else number
        return was

    def was_at_first(self, code):
        """The same at the point (0,)."""
        return {number: -self.number_of[("in", code.entry(name)[1])] for number, name in self.holders}

    def pair(self, point, one, other):
        """The number of the pair of two names at a point."""
        return pair_of(self.spot_of[point], self.number_of[one], self.number_of[other])

    def told(self, pairs):
        """The tuple of the tuples (point, one, other) of these pairs."""
        return tuple([(self.spots[pair // PAIRS], self.name_of[pair // NAMES % NAMES], self.name_of[pair % NAMES])
                      for pair in pairs])


def befores(after):
    """For each point the ascending list of the points before it, by the lists of those after each."""
    found = [[] for _ in after]
    for spot in range(len(after)):
        for later in after[spot]:
            found[later].append(spot)
    return found


def numbered_names(code):
    """A dict from the numbers of all names that can be at a point of the code to these names."""
    found = {by_number(back, index): ("by", back, index)
             for back in range(1, code.reach + 1) for index in range(INDEXES)}
    for place, name in enumerate(code.registers):
        found[FIRST_IN + place] = ("in", name)
    return found


def landings_at(code, point):
    """A dict from the registers to which a write lands just at a point to the number of its name."""
    found = {}
    for back in range(1, len(point)):
        for index, name, delay, _ in code.writes[point[-1 - back]]:
            if delay == back:
                found[name] = by_number(back, index)
    return found
