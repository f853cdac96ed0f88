"""What kind of object a thing is. A thing may be any object, so its kind is asked before anything else."""


def is_whole(thing):
    """Whether a thing is an integer."""
    return isinstance(thing, int) and not isinstance(thing, bool)


def is_between(thing, low, high):
    """Whether a thing is an integer from low to high."""
    return is_whole(thing) and low <= thing <= high


def is_row(thing, many):
    """Whether a thing is a tuple of so many items."""
    return isinstance(thing, tuple) and len(thing) == many


def are_whole(things):
    """Whether all items of a tuple are integers."""
    return all([is_whole(thing) for thing in things])
