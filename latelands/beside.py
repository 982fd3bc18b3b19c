"""A second code, the other, that is held beside a code: which rows and entries stand for which.

Here it is found where the ways of the other lead in the code, without a look at values.
"""

from latelands.checks import within
from latelands.errors import InvalidMap, NoName
from latelands.kinds import is_name
from latelands.landings import refuse_clash
from latelands.shape import jump_of, reached_by
from latelands.ways import is_way


def beside(code, other, rows, starts):
    """The other as it is held beside the code; rows and starts may be any values."""
    refuse_clash(code)
    refuse_clash(other)
    if rows is None:
        rows = tuple(range(len(other)))
    wrong = wrong_stand(code, other, rows)
    if wrong is not None:
        raise InvalidMap(wrong)
    if starts is None:
        starts = {name: name for name in other.registers if name in code.registers}
    check_starts(code, other, starts)
    return Beside(code, other, rows, starts)


def wrong_stand(code, other, rows):
    """The index of the first entry of any value that cannot stand there in rows, or None."""
    if not isinstance(rows, tuple):
        return 0
    least = min(len(rows), len(other))
    # For each late row of the other the row with its jump, which comes ahead of it.
    jumps = {at + behind: at for at in range(len(other)) if jump_of(other.rows[at]) is not None
             for behind in range(1, other.machine.late + 1)}
    for at in range(least):
        if not can_stand(code, other, at, rows[at]):
            return at
        if at in jumps and (rows[jumps[at]] is None) != (rows[at] is None):
            return at
    return None if len(rows) == len(other) else least


def can_stand(code, other, at, value):
    """Whether a row of the other can stand for any value, a row of the code, or be spare for None."""
    row = other.rows[at]
    if value is None:
        return len(row) == 0 or (len(row) == 1 and jump_of(row) is not None and len(row[0][2]) == 0)
    return within(value, 0, len(code) - 1) and sorts_of(code, code.rows[value]) == sorts_of(other, row)


def sorts_of(code, row):
    """For each operation of a row its sort and the number of its sources; rows with the same ones are akin."""
    return [(code.machine.kind(name).family, len(sources)) for name, _, sources, _ in row]


def check_starts(code, other, starts):
    """Refuses what is no dict from names to names, then names that are no registers."""
    if not isinstance(starts, dict) or not all([is_name(name) and is_name(starts[name]) for name in starts]):
        raise InvalidMap(None)
    for name in sorted(list(starts)):
        if name not in other.registers:
            raise NoName(name)
        if starts[name] not in code.registers:
            raise NoName(starts[name])


class Beside:
    """The other beside a code.

    Attributes: `code`, `other`; `stands`, for each row of the other the row of the code for which it
    stands, or None if it is spare; `starts`; `leads`, for each row of the other, and for its end, the
    row of the code, or its number of rows for the end, to which the other leads on over this row to
    come, None if it goes round for ever; `joined`, for each row of the other its next rows to which it
    leads on as the code does; `way_with`, a dict from the rows of the other to the least of the shortest
    ways with this last row, and with an image that is a way of the code.
    """

    def __init__(self, code, other, stands, starts):
        self.code = code
        self.other = other
        self.stands = stands
        self.starts = starts
        self.leads = tuple([lead_of(code, other, stands, row) for row in range(len(other) + 1)])
        self.joined = tuple([self.joined_behind(row) for row in range(len(other))])
        self.way_with = self.ways_by_last_row()

    def joined_behind(self, row):
        """The next rows of a row of the other to which it leads on as the code does."""
        following = self.other.following[row]
        if self.stands[row] is None:
            return following
        right = self.right_behind(row)
        return tuple([later for later in following if self.leads[later] in right])

    def ways_by_last_row(self):
        if self.leads[0] != 0:
            return {}
        found = reached_by(self.joined)
        return {row: found[row] for row in found if row < len(self.other)}

    def lasts(self):
        """The list of the last rows of ways behind which it counts where the other leads on, None for the empty way."""
        return [None] + [row for row in self.way_with if self.stands[row] is not None]

    def right_behind(self, last):
        """The next rows in the code behind a last row of the other, or behind nothing for None."""
        return (0,) if last is None else self.code.following[self.stands[last]]

    def led_behind(self, last):
        """The list of the rows to which the other leads on from such a last row, one None if for ever round."""
        following = (0,) if last is None else self.other.following[last]
        return [self.leads[row] for row in following]

    def strays_behind(self, last):
        """The ascending list of those of them that are no next rows, or [None] if it only goes round for ever."""
        led = self.led_behind(last)
        right = self.right_behind(last)
        wrong = [row for row in led if row is not None and row not in right]
        if len(wrong) == 0 and None in led:
            return [None]
        return sorted(wrong)

    def lacks_behind(self, last):
        """The ascending list of the next rows to which the other does not lead on."""
        led = self.led_behind(last)
        return [row for row in self.right_behind(last) if row not in led]

    def image_of(self, way):
        """The image of a way of the other."""
        return tuple([self.stands[row] for row in way if self.stands[row] is not None])

    def keeps_to_code(self, way):
        """Whether any value is a way of the other that has a way of the code as its image."""
        return is_way(self.other, way) and is_way(self.code, self.image_of(way))


def lead_of(code, other, stands, row):
    """The row of the code, or its end, to which the other leads on over a row, or None if for ever round."""
    for _ in range(len(other) + 1):
        if row == len(other):
            return len(code)
        if stands[row] is not None:
            return stands[row]
        # A spare row has no jump with a source, and is no late row of one, so it has one next row.
        row = other.following[row][0]
    return None
