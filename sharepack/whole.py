"""What a whole number is."""


def is_whole(value, low, high):
    """Tell whether a value of any kind is a whole number from low to high."""
    # True and False are ints to Python, but no whole numbers here.
    if isinstance(value, bool) or not isinstance(value, int):
        return False
    return low <= value <= high
