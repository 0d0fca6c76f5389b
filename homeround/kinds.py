"""What all stages share: how far tables go, what things and words are, and how places hang together by ties."""

MOST_PLACES = 8
LONGEST_WAY = 1000000


def is_whole(thing):
    """Tell whether a thing is a whole number."""
    # Python counts True and False among its ints; here they are no numbers.
    return isinstance(thing, int) and not isinstance(thing, bool)


def are_wholes(thing):
    """Tell whether a thing is a tuple of whole numbers alone."""
    return isinstance(thing, tuple) and all([is_whole(part) for part in thing])


def is_tie(many, thing):
    """Tell of anything whether it is a tie of two of many places."""
    return are_wholes(thing) and len(thing) == 2 and 0 <= thing[0] < thing[1] < many


def tied_to(ties, place):
    """Tell the places tied to a place, the lesser ones first."""
    return sorted([i + j - place for i, j in ties if place in (i, j)])


def parts(places, ties):
    """Tell the lists of places that hang together by those ties whose ends are both among the places."""
    found = [[place] for place in places]
    for i, j in ties:
        # An end that is not among the places stands in no part.
        tied = [part for part in found if i in part or j in part]
        if len(tied) == 2:
            found = [part for part in found if part not in tied] + [tied[0] + tied[1]]
    return found


def walked_from(ties, place, before):
    """Tell the places of a tree that hang at a place, this first, but for what hangs at the one before it."""
    found = [place]
    for tied in tied_to(ties, place):
        if tied != before:
            found.extend(walked_from(ties, tied, place))
    return found


def number_in(word, most):
    """Tell the whole number from 0 to most that a word writes by its figures, no 0 ahead, or None."""
    # Words that are too long are no such numbers, whatever they write.
    if len(word) > len(str(most)) or not word.isascii() or not word.isdigit():
        return None
    number = int(word)
    return number if number <= most and str(number) == word else None
