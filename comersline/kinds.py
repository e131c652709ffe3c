"""What kind of value a thing is."""


def is_whole(thing):
    """Whether it is a whole number: an int that is no truth."""
    return isinstance(thing, int) and not isinstance(thing, bool)


def is_row(thing):
    """Whether it is a list or a tuple: where one of them is due, the other one may be handed in."""
    return isinstance(thing, (list, tuple))
