"""Stage 1: tables of ways, the rounds and the walks in them."""

from homeround.kinds import LONGEST_WAY, MOST_PLACES, are_wholes


def is_table(thing):
    """Tell of anything whether it is a table."""
    if not isinstance(thing, tuple) or not 1 <= len(thing) <= MOST_PLACES:
        return False
    return all([is_table_row(row, own, len(thing)) for own, row in enumerate(thing)])


def is_table_row(thing, own, many):
    """Tell of anything whether it may be the row of the place own in a table of many places."""
    if not are_wholes(thing) or len(thing) != many:
        return False
    return thing[own] == 0 and min(thing) >= 0 and max(thing) <= LONGEST_WAY


def is_even(table):
    """Tell whether each way back is as long."""
    many = len(table)
    return all([table[i][j] == table[j][i] for i in range(many) for j in range(i)])


def is_straight(table):
    """Tell whether no way is longer than two ways that lead there by another place."""
    many = len(table)
    return all([
        table[i][k] <= table[i][j] + table[j][k]
        for i in range(many) for j in range(many) for k in range(many)
    ])


def is_round(table, thing):
    """Tell of anything whether it is a round of the table."""
    if not are_wholes(thing):
        return False
    return thing[:1] == (0,) and sorted(thing) == list(range(len(table)))


def length(table, round_):
    """Tell how long a round is."""
    followers = round_[1:] + round_[:1]
    return sum([table[one][other] for one, other in zip(round_, followers)])


def shortened(table):
    """Tell the table whose lengths are the least that ways one behind the other come to."""
    return tuple([tuple(reach(table, start)[0]) for start in range(len(table))])


def walk(table, one, other):
    """Tell a walk from one place to another whose ways come to the shortened length."""
    return reach(table, one)[1][other]


def reach(table, start):
    """Tell (least, walks): for each place the least that ways from start to it come to, and such a walk."""
    least = list(table[start])
    walks = [(start, place) for place in range(len(table))]
    walks[start] = (start,)
    left = [place for place in range(len(table)) if place != start]
    while left:
        # No way is below 0, so no walk by other places that are left can be shorter to the nearest of them.
        nearest = min([(least[place], place) for place in left])[1]
        left.remove(nearest)
        for place in left:
            through = least[nearest] + table[nearest][place]
            if through < least[place]:
                least[place] = through
                walks[place] = walks[nearest] + (place,)
    return least, walks
