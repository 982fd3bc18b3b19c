"""Ways through a code, and the points to which they lead."""

from latelands.checks import within
from latelands.errors import InvalidLimit, NoPoint, NoRow, TooMany

MOST_STEPS = 12
MOST_POINTS = 800


def is_way(code, value):
    """Whether any value is a way."""
    return wrong_entry(code, value) is None


def wrong_entry(code, value):
    """The index of the first entry that cannot stand there in a way, or None for a way."""
    if not isinstance(value, tuple):
        return 0
    right = (0,)
    for index, row in enumerate(value):
        if not within(row, 0, len(code) - 1) or row not in right:
            return index
        right = code.following[row]
    return None


def ways(code, steps):
    """Yields all ways with this number of rows, ascending."""
    if not within(steps, 0, MOST_STEPS):
        raise InvalidLimit(steps)
    found = [()]
    for _ in range(steps):
        found = [way + (row,) for way in found for row in rows_behind(code, way)]
    for way in found:
        yield way


def rows_behind(code, way):
    """The ascending list of the rows that can come behind a way."""
    following = code.following[way[-1]] if len(way) > 0 else (0,)
    return [row for row in following if row < len(code)]


def way_to(code, row):
    """The least of the shortest ways to a row, or behind which the code can end, or None."""
    if not within(row, 0, len(code)):
        raise NoRow(row)
    return code.reached.get(row)


def is_point(code, value):
    """Whether any value is a point."""
    if not isinstance(value, tuple) or not 1 <= len(value) <= code.reach + 1:
        return False
    if not is_walk(code, value):
        return False
    return value[0] == 0 if len(value) <= code.reach else value[0] in code.reached


def is_walk(code, value):
    """Whether the entries of a tuple are rows, each a next row of the one before, or at last the end."""
    for index, row in enumerate(value):
        if not within(row, 0, len(code)):
            return False
        if index > 0 and row not in entries_behind(code, value[index - 1]):
            return False
    return True


def entries_behind(code, row):
    """The next rows of a row, none for the end."""
    return code.following[row] if row < len(code) else ()


def walks(code, row, steps):
    """The list of the tuples that lead from a row over so many steps, perhaps to the end, ascending."""
    found = [(row,)]
    for _ in range(steps):
        found = [walk + (following,) for walk in found for following in entries_behind(code, walk[-1])]
    return found


def points(code):
    """Yields all points, shorter ones first, those of one length ascending."""
    if count_points(code) > MOST_POINTS:
        raise TooMany(MOST_POINTS)
    for point in list_points(code):
        yield point


def list_points(code):
    """The list of what points yields."""
    short = [point for steps in range(code.reach) for point in walks(code, 0, steps)]
    return short + [point for row in sorted(list(code.reached)) for point in walks(code, row, code.reach)]


def count_points(code):
    """The number of the points of the code, be they ever so many."""
    if "count" not in code.memo:
        code.memo["count"] = counted_points(code)
    return code.memo["count"]


def counted_points(code):
    """The same, counted anew."""
    # Of each row, and of the end, the number of its walks over the steps so far.
    counts = [1] * (len(code) + 1)
    many = 0
    for _ in range(code.reach):
        many = many + counts[0]
        counts = [sum([counts[following] for following in rows]) for rows in code.following] + [0]
    return many + sum([counts[row] for row in code.reached])


def points_after(code, point):
    """The ascending tuple of the points after a point."""
    check_point(code, point)
    return following_points(code, point)


def points_before(code, point):
    """The ascending tuple of the points that a point is after."""
    check_point(code, point)
    return leading_points(code, point)


def check_point(code, point):
    if not is_point(code, point):
        raise NoPoint(point)


def following_points(code, point):
    """What points_after tells of a point."""
    return tuple([(point + (row,))[-code.reach - 1:] for row in entries_behind(code, point[-1])])


def leading_points(code, point):
    """What points_before tells of a point."""
    found = [(row,) + point[:-1] for row in code.leading[point[0]] if row in code.reached]
    if len(point) <= code.reach:
        found = []
    if len(point) > 1 and point[0] == 0:
        found.append(point[:-1])
    return tuple(sorted(found))


def shortest_way_to_point(code, point):
    """A shortest way that leads to a point."""
    return code.reached[point[0]][:-1] + point[:-1]
