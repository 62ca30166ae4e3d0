"""What a whole number is."""


def is_whole(thing):
    """Tell of anything whether it is an int that is no truth."""
    return isinstance(thing, int) and not isinstance(thing, bool)


def is_whole_to(thing, most):
    """Tell of anything whether it is a whole number from 0 to most."""
    return is_whole(thing) and 0 <= thing <= most
