"""Fewest numbers of which each pair has one, and cover papers which show that there are no fewer.

Pairs are a list of tuples (g, h) of numbers with g <= h; a pair (g, g) has the number g alone.
"""


def without(pairs, numbers):
    """The list of the pairs that have none of these numbers."""
    barred = {number: True for number in numbers}
    return [pair for pair in pairs if pair[0] not in barred and pair[1] not in barred]


def partners_of(pairs, number):
    """The ascending tuple of the other numbers that stand in a pair with a number."""
    return tuple(sorted({other for pair in pairs for other in pair if number in pair and other != number}))


def busiest(pairs):
    """The least number that has the most partners of all those that must not be taken anyway, or None."""
    alone = [low for low, high in pairs if low == high]
    found = sorted({number for pair in without(pairs, alone) for number in pair})
    return max(found, key=lambda number: len(partners_of(pairs, number)), default=None)


def least_cover(pairs):
    """An ascending tuple of as few numbers as possible of which each pair has one."""
    alone = tuple(sorted({low for low, high in pairs if low == high}))
    left = without(pairs, alone)
    number = busiest(left)
    if number is None:
        return alone
    partners = partners_of(left, number)
    # Either the number is taken or all its partners are.
    taken = (number,) + least_cover(without(left, (number,)))
    spared = partners + least_cover(without(left, partners))
    return tuple(sorted(alone + (taken if len(taken) <= len(spared) else spared)))


def apart(pairs):
    """A tuple of pairs no two of which have a number in common, as many as are found at once."""
    found = []
    left = pairs
    while len(left) > 0:
        # A pair with few neighbours hinders few others.
        pair = min(left, key=lambda each: (len(left) - len(without(left, each)), each))
        found.append(pair)
        left = without(left, pair)
    return tuple(sorted(found))


def cover_paper(pairs, most):
    """A cover paper for these pairs and a number: there must be no set with at most so many numbers."""
    if most < 0:
        return None
    some = apart(pairs)
    if len(some) > most:
        return "pairs", some
    number = busiest(pairs)
    partners = partners_of(pairs, number)
    taken = cover_paper(without(pairs, (number,)), most - 1)
    left = cover_paper(without(pairs, partners), most - len(partners))
    return "case", number, taken, left
