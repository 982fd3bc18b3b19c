"""What is asked of any value, all over the package."""


def within(value, low, high):
    """Whether any value is an integer from low to high."""
    return isinstance(value, int) and not isinstance(value, bool) and low <= value <= high
