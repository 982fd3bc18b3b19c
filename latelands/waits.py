"""Waits and rings among the rows of a code: how long a bell can wait while only some gaps are open."""

from latelands.checks import within


def rows_waited_in(code):
    """The ascending list of the rows that are a next row of a row on some way."""
    return sorted({later for row in code.reached if row < len(code) for later in code.following[row]
                   if later < len(code)})


def is_wait(code, gaps, value):
    """Whether any value is a wait while these gaps are open."""
    if not isinstance(value, tuple):
        return False
    right = rows_waited_in(code)
    for row in value:
        if not within(row, 0, len(code) - 1) or row not in right or row in gaps:
            return False
        right = code.following[row]
    return True


def is_ring(code, gaps, value):
    """Whether any value is a ring while these gaps are open."""
    return is_wait(code, gaps, value) and len(value) > 0 and value[0] in code.following[value[-1]]


def longest(code, gaps):
    """The longest wait while these gaps are open, and one with so many rows, or None and a ring."""
    rows = [row for row in rows_waited_in(code) if row not in gaps]
    wait = ()
    waits = [(row,) for row in rows]
    while len(waits) > 0:
        wait = waits[0]
        if len(wait) > len(rows):
            return None, ring_in(wait)
        waits = longer_waits(code, rows, {each[-1]: each for each in waits})
    return len(wait), wait


def longer_waits(code, rows, waits):
    """For each of these rows a wait that ends there, one row longer than the given ones, by their last rows."""
    found = []
    for row in rows:
        ahead = [waits[before] for before in code.leading[row] if before in waits]
        if len(ahead) > 0:
            found.append(ahead[0] + (row,))
    return found


def ring_in(wait):
    """The first ring in a wait that has a row twice."""
    for place, row in enumerate(wait):
        if row in wait[:place]:
            return wait[wait.index(row):place]
    return ()


def lightest_wait(code, rows, heavy, count):
    """A wait of so many of these rows that has as few heavy ones as can be; there must be one."""
    # For each row the least weight of a wait that ends there, and that wait.
    waits = {row: (weight_of(row, heavy), (row,)) for row in rows}
    for _ in range(count - 1):
        waits = lighter_waits(code, rows, heavy, waits)
    return min([waits[row] for row in waits])[1]


def lighter_waits(code, rows, heavy, waits):
    """The same for waits of one row more."""
    found = {}
    for row in rows:
        ahead = [waits[before] for before in code.leading[row] if before in waits]
        if len(ahead) > 0:
            weight, wait = min(ahead)
            found[row] = (weight + weight_of(row, heavy), wait + (row,))
    return found


def weight_of(row, heavy):
    return 1 if row in heavy else 0


def lightest_ring(code, rows, heavy):
    """A ring of these rows that has as few heavy ones as can be; there must be a ring."""
    rings = [lightest_ring_from(code, row, rows, heavy) for row in rows]
    return min([ring for ring in rings if ring is not None])[1]


def lightest_ring_from(code, start, rows, heavy):
    """The weight of a lightest ring of these rows that begins with a row, and that ring, or None."""
    weight = weight_of(start, heavy)
    light = [(start,)]
    # What has one heavy row more than what is looked at just now.
    heavier = []
    done = {}
    while len(light) > 0 or len(heavier) > 0:
        if len(light) == 0:
            weight = weight + 1
            light = heavier
            heavier = []
        wait = light.pop()
        if wait[-1] in done:
            continue
        done[wait[-1]] = True
        if start in code.following[wait[-1]]:
            return weight, wait
        for later in code.following[wait[-1]]:
            if later in rows and later in heavy:
                heavier.append(wait + (later,))
            elif later in rows:
                light.append(wait + (later,))
    return None
