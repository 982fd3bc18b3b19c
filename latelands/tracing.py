"""Going back over all ways from two names at a point to what they were before."""

from heapq import heappop, heappush

from latelands.naming import name_was, standing
from latelands.ways import leading_points, shortest_way_to_point, shortest_ways


class Tracer:
    """Finds out whether two different names at a point of a code without a clash are alike.

    A pair is a tuple (point, one, other), one less than other.
    """

    def __init__(self, code):
        self.code = code
        self.reached = shortest_ways(code)
        self.settled = {}

    def pairs_before(self, pair):
        """The pairs that these two names were, none if they are alike here, or None if unlike here."""
        point, one, other = pair
        if point == (0,):
            return [] if self.code.entry(one[1]) == self.code.entry(other[1]) else None
        if standing(self.code, point, one) == standing(self.code, point, other):
            return []
        was = name_was(self.code, point, one)
        other_was = name_was(self.code, point, other)
        if was is None or other_was is None:
            return None
        if was == other_was:
            return []
        low = min(was, other_was)
        high = max(was, other_was)
        return [(before, low, high) for before in leading_points(self.code, point, self.reached)]

    def trace(self, pair):
        """The pair at which a shortest way makes these names unlike, and how it leads on from there.

        It is None if they are alike. The second value is a dict from each pair that was looked at
        to the pair that it becomes on the way to the last one, for which it is (). Pairs that are
        settled, known to be alike, are left out.
        """
        onward = {}
        queue = [(self.fewest_rows(pair), 0, pair, ())]
        # The pair of which the shortest way is shortest comes first, so the first unlike one is right.
        while len(queue) > 0:
            _, steps, looked, becomes = heappop(queue)
            if looked in onward or looked in self.settled:
                continue
            onward[looked] = becomes
            earlier = self.pairs_before(looked)
            if earlier is None:
                return looked, onward
            for before in earlier:
                heappush(queue, (steps + 1 + self.fewest_rows(before), steps + 1, before, looked))
        return None, onward

    def fewest_rows(self, pair):
        """The number of rows of a shortest way to the point of a pair."""
        return len(shortest_way_to_point(pair[0], self.reached))

    def way_on(self, pair, onward):
        """A shortest way to the point of a pair, and on as a trace has told."""
        way = shortest_way_to_point(pair[0], self.reached)
        while onward[pair] != ():
            way = way + (pair[0][-1],)
            pair = onward[pair]
        return way

    def are_alike(self, pair):
        """Whether the names are alike; asked for many pairs, it looks at each one only once."""
        unlike, onward = self.trace(pair)
        if unlike is None:
            for looked in onward:
                self.settled[looked] = True
        return unlike is None
