"""What is asked of any value, all over the package."""

from latelands.errors import HeldGap, NoRow


def within(value, low, high):
    """Whether any value is an integer from low to high."""
    return isinstance(value, int) and not isinstance(value, bool) and low <= value <= high


def are_integers(value):
    """Whether any value is a tuple of integers, of which none is True or False."""
    return isinstance(value, tuple) and all([isinstance(each, int) and not isinstance(each, bool) for each in value])


def check_gaps(code, gaps):
    """Refuses the first of these values that is no row, then the first gap that is held."""
    for gap in gaps:
        if not within(gap, 0, len(code) - 1):
            raise NoRow(gap)
    for gap in gaps:
        if gap in code.held:
            raise HeldGap(gap)
