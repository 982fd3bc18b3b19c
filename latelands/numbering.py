"""Numbers for things of which some must have different ones: as few numbers as can be.

Things are integers, and apart is a dict from each thing to the dict of the things with other numbers
than it. A case is a dict from some things to the numbers that they have, which are all from 0 on.
"""


def free_numbers(apart, case, thing, most):
    """The ascending list of the numbers that a thing can get in a case, where there are at most so many."""
    used = max(list(case.values()), default=-1) + 1
    taken = {case[other]: True for other in apart[thing] if other in case}
    return [number for number in range(min(used + 1, most)) if number not in taken]


def next_thing(apart, things, case, most):
    """The thing without a number that can get the fewest numbers; of these one that is apart from most others."""
    left = [thing for thing in things if thing not in case]
    return min(left, key=lambda thing: (len(free_numbers(apart, case, thing, most)), -len(apart[thing]), thing))


def numbered(apart, things, case, most):
    """A case with all these things in which the others have the numbers they have here, or None if there is none."""
    if len(case) == len(things):
        return case
    thing = next_thing(apart, things, case, most)
    for number in free_numbers(apart, case, thing, most):
        found = numbered(apart, things, {**case, thing: number}, most)
        if found is not None:
            return found
    return None


def fewest_numbers(apart):
    """A tuple of numbers for all things, which are 0, 1 and so on, as few as can be.

    Each number comes for the first time behind all lesser ones.
    """
    most = 0
    found = numbered(apart, list(apart), {}, most)
    while found is None:
        most = most + 1
        found = numbered(apart, list(apart), {}, most)
    names = {}
    for thing in range(len(apart)):
        names.setdefault(found[thing], len(names))
    return tuple([names[found[thing]] for thing in range(len(apart))])


def needed_things(apart, most):
    """A list of things, none of which can be left out, that at most so many numbers are not enough for."""
    needed = list(apart)
    for thing in apart:
        fewer = [other for other in needed if other != thing]
        if numbered(apart, fewer, {}, most) is None:
            needed = fewer
    return needed


def numbers_paper(apart, things, case, most):
    """A registers paper for these things, in a case: at most so many numbers must not be enough for them."""
    thing = next_thing(apart, things, case, most)
    return "web", thing, tuple([numbers_paper(apart, things, {**case, thing: number}, most)
                                for number in free_numbers(apart, case, thing, most)])
