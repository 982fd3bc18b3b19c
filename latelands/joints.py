"""The joint points of a code and another one beside it, and the names at them, by numbers."""

from latelands.atlas import ASIDE, NAMES, PAIRS, Field, atlas_of, befores, pair_of
from latelands.errors import TooMany
from latelands.shape import names_read

MOST_JOINTS = 800


def joints_of(side):
    """The joints of two codes beside one another, which must not have too many joint points."""
    return Joints(side, ways_to_joints(side))


def refuse_joints(side):
    """Refuses two codes with too many joint points."""
    ways_to_joints(side)


def ways_to_joints(side):
    """A dict from the joint points to shortest ways of the other that lead there."""
    if side.leads[0] != 0:
        return {}
    first = ((0,), (0,))
    found = {first: ()}
    queue = [first]
    done = 0
    while done < len(queue):
        joint = queue[done]
        done = done + 1
        for later in joints_after(side, joint):
            if later not in found:
                found[later] = found[joint] + (joint[1][-1],)
                queue.append(later)
        if len(found) > MOST_JOINTS:
            raise TooMany(MOST_JOINTS)
    return found


def joints_after(side, joint):
    """The list of the joint points to which one step leads from a joint point."""
    point, other_point = joint
    last = other_point[-1]
    if last == len(side.other):
        return []
    found = []
    for row in side.joined[last]:
        other_later = (other_point + (row,))[-side.other.reach - 1:]
        if side.stands[last] is None:
            found.append((point, other_later))
        else:
            found.append(((point + (side.leads[row],))[-side.code.reach - 1:], other_later))
    return found


class Joints(Field):
    """A field of which the spots are the joint points, numbered in ascending order.

    At a spot are the names of the code at its point, by their numbers, and those of the other at its
    other point, by their numbers and ASIDE more. Beside what a field has, `spots`, `spot_of` and
    `after` are as in an atlas; `ways` has for each spot a shortest way of the other that leads there.
    """

    def __init__(self, side, ways):
        self.side = side
        self.own = atlas_of(side.code)
        self.aside = atlas_of(side.other)
        self.spots = tuple(sorted(list(ways)))
        self.spot_of = {joint: spot for spot, joint in enumerate(self.spots)}
        self.ways = [ways[joint] for joint in self.spots]
        self.after = [[self.spot_of[later] for later in joints_after(side, joint)] for joint in self.spots]
        self.before = befores(self.after)
        self.was = [self.was_of_both(joint) for joint in self.spots]

    def was_of_both(self, joint):
        """What the names of both codes were at a joint point."""
        point, other_point = joint
        own = self.own.was[self.own.spot_of[point]]
        if len(other_point) > 1 and self.side.stands[other_point[-2]] is None:
            # Over a spare row each name of the code was itself.
            own = {name: name for name in own}
        aside = self.was_of_other(other_point)
        return {**own, **aside}

    def was_of_other(self, other_point):
        """What the names of the other were at its point."""
        if other_point == (0,):
            return {name + ASIDE: self.entry_of(name, held) for name, held in self.aside.holders}
        was = self.aside.was[self.aside.spot_of[other_point]]
        # What is new is less than 0, in both codes by its index.
        return {name + ASIDE: earlier if earlier < 0 else earlier + ASIDE for name, earlier in was.items()}

    def entry_of(self, name, held):
        """What the name of the entry of a register of the other was: as in the code, or unlike all others."""
        if held not in self.side.starts:
            return -name - ASIDE
        own_name = self.own.number_of[("in", self.side.starts[held])]
        return self.own.was[self.own.spot_of[(0,)]][own_name]

    def standing(self, pair):
        """The pair of the names for which the two names of a pair stand."""
        spot = pair // PAIRS
        point, other_point = self.spots[spot]
        own = stands_in(self.own, point, pair // NAMES % NAMES)
        aside = stands_in(self.aside, other_point, pair % NAMES - ASIDE)
        return pair_of(spot, own, aside + ASIDE)

    def sources(self):
        """The ascending list of the pairs of all corresponding sources, each taken for what it stands for."""
        found = {self.standing(pair): True for spot in range(len(self.spots)) for pair in self.sources_at(spot)}
        return sorted(list(found))

    def sources_at(self, spot):
        """The list of the pairs of the corresponding sources of the rows to come."""
        last = self.spots[spot][1][-1]
        if last == len(self.side.other) or self.side.stands[last] is None:
            return []
        own_names = names_read(self.side.code.rows[self.side.stands[last]])
        other_names = names_read(self.side.other.rows[last])
        return [pair_of(spot, self.own.number_of[("in", name)], self.aside.number_of[("in", other_name)] + ASIDE)
                for name, other_name in zip(own_names, other_names)]

    def told(self, pairs):
        """The ascending tuple of the tuples (point, other point, name, other name) of these pairs."""
        found = sorted({self.standing(pair) for pair in pairs})
        return tuple([self.spots[pair // PAIRS] + self.names_of(pair) for pair in found])

    def names_of(self, pair):
        """The name and the other name of a pair."""
        return self.own.name_of[pair // NAMES % NAMES], self.aside.name_of[pair % NAMES - ASIDE]

    def way_along(self, trail):
        """A shortest way of the other over the spots with these numbers to the last one of them."""
        return self.ways[trail[0]] + tuple([self.spots[spot][1][-1] for spot in trail[:-1]])


def stands_in(atlas, point, name):
    """The number of the name for which a name stands at a point, told by its number, too."""
    told = atlas.name_of[name]
    if told[0] == "by":
        return name
    return atlas.landing[atlas.spot_of[point]].get(told[1], name)
