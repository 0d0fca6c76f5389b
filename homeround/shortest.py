"""Stage 2: the shortest round, and floors that show that none is shorter."""

from homeround.kinds import are_wholes, is_whole

START = ((0,), 0)


def shortest(table):
    """Tell (length, round, floors): a shortest round, and floors that show its length."""
    rests = least_rests(table)
    floors = [(some, last, rest) for (some, last), rest in rests.items()]
    return rests[START], round_by_rests(table, rests), floors


def how_many(table):
    """Tell how many rounds are as short as the shortest."""
    rests = least_rests(table)
    counts = {}
    # The rests stand with the greater parts first, so what a count asks for is there already.
    for (some, last), rest in rests.items():
        if len(some) == len(table):
            counts[(some, last)] = 1
        else:
            best = [place for whole, place in onward(table, rests, some, last) if whole == rest]
            counts[(some, last)] = sum([counts[(joined(some, place), place)] for place in best])
    return counts[START]


def least_rests(table):
    """Tell for each (some, last) the least length that leads on from last through all places not in some, and home."""
    rests = {}
    for some in reversed(parts_with_home(len(table))):
        # A round is at 0 at its very start alone.
        for last in some[1:] or some:
            if len(some) == len(table):
                rests[(some, last)] = table[last][0]
            else:
                rests[(some, last)] = min(onward(table, rests, some, last))[0]
    return rests


def parts_with_home(many):
    """Tell all rising tuples of places with 0 among them, each behind those that are parts of it."""
    parts = [(0,)]
    for place in range(1, many):
        parts = parts + [some + (place,) for some in parts]
    return parts


def joined(some, place):
    """Tell the rising tuple of some and one place more."""
    return tuple(sorted(some + (place,)))


def places_left(table, some):
    """Tell the places of the table that are not in some."""
    return [place for place in range(len(table)) if place not in some]


def onward(table, rests, some, last):
    """Tell for each place that is left (whole, place): the least length that leads on by this place next."""
    return [
        (table[last][place] + rests[(joined(some, place), place)], place)
        for place in places_left(table, some)
    ]


def round_by_rests(table, rests):
    """Tell a round that goes on by a place of least length each time."""
    gone = (0,)
    while len(gone) < len(table):
        some = tuple(sorted(gone))
        gone = gone + (min(onward(table, rests, some, gone[-1]))[1],)
    return gone


def do_show(table, floors, number):
    """Tell of any list whether it is one of floors of the table that show the number."""
    if not all([is_floor(table, thing) for thing in floors]):
        return False
    highest = highest_floors(floors)
    if START not in highest or highest[START] < number:
        return False
    return all([does_hold(table, highest, some, last, height) for some, last, height in floors])


def is_floor(table, thing):
    """Tell of anything whether it is a floor of the table."""
    if not isinstance(thing, tuple) or len(thing) != 3:
        return False
    some, last, height = thing
    return is_part_with_home(table, some) and is_whole(last) and last in some and is_whole(height)


def is_part_with_home(table, thing):
    """Tell of anything whether it is a rising tuple of places of the table, 0 among them."""
    if not are_wholes(thing) or 0 not in thing:
        return False
    return list(thing) == [place for place in range(len(table)) if place in thing]


def highest_floors(floors):
    """Tell for each (some, last) that has a floor the greatest number of these."""
    highest = {}
    for some, last, height in floors:
        highest[(some, last)] = max(height, highest.get((some, last), height))
    return highest


def does_hold(table, highest, some, last, height):
    """Tell whether a floor is held up by a way home, or at each place that is left."""
    if height <= 0:
        return True
    if len(some) == len(table):
        return height <= table[last][0]
    return all([
        is_held_at(highest, joined(some, place), place, height - table[last][place])
        for place in places_left(table, some)
    ])


def is_held_at(highest, some, last, height):
    """Tell whether what is left of a floor behind the way to last is nothing, or has a floor there."""
    return height <= 0 or ((some, last) in highest and highest[(some, last)] >= height)
