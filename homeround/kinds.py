"""What things are, asked of anything: the helper that all stages share."""


def is_whole(thing):
    """Tell whether a thing is a whole number."""
    # Python counts True and False among its ints; here they are no numbers.
    return isinstance(thing, int) and not isinstance(thing, bool)


def are_wholes(thing):
    """Tell whether a thing is a tuple of whole numbers alone."""
    return isinstance(thing, tuple) and all([is_whole(part) for part in thing])
