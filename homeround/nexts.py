"""Stage 3: nexts of least sum, with outs and ins that show it, and the circles that nexts make."""

from homeround.errors import TooFew


def nexts(table):
    """Tell (sum, nexts, outs, ins): nexts of least sum, and outs and ins that come to it."""
    refuse_one_place(table)
    many = len(table)
    follow = [None] * many
    outs = [0] * many
    ins = [0] * many
    for place in range(many):
        came = search(table, follow, outs, ins, place)
        hand_on(follow, came)
    total = sum([table[one][other] for one, other in enumerate(follow)])
    return total, tuple(follow), tuple(outs), tuple(ins)


def refuse_one_place(table):
    """Refuse a table without two unlike places."""
    if len(table) < 2:
        raise TooFew("nexts are of two places or more")


def search(table, follow, outs, ins, place):
    """Tell for each place that is come to from where, until one that is nobody's next is come to.

    Outs and ins change so that each step, and each next that is given, has an out and an in of just the way.
    """
    came = {}
    going = [place]
    while True:
        gap, one, other = least_gap(table, outs, ins, going, came)
        # The nexts given so far join going and came, so what their outs win their ins lose.
        for mover in going:
            outs[mover] += gap
        for spot in came:
            ins[spot] -= gap
        came[other] = one
        if other not in follow:
            return came
        going.append(follow.index(other))


def least_gap(table, outs, ins, going, came):
    """Tell (gap, one, other): the way from one of going to a place not come to yet that has least room left."""
    return min([
        (table[one][other] - outs[one] - ins[other], one, other)
        for one in going for other in range(len(table)) if other != one and other not in came
    ])


def hand_on(follow, came):
    """Give the last place come to away as a next, and so on back to the place that had none."""
    spot = list(came)[-1]
    while spot is not None:
        one = came[spot]
        before = follow[one]
        follow[one] = spot
        spot = before


def are_outs_ins(table, outs, ins, number):
    """Tell whether no out and in of unlike places are above the way, and all together come to just the number."""
    refuse_one_place(table)
    many = len(table)
    if sum(outs) + sum(ins) != number:
        return False
    return all([outs[i] + ins[j] <= table[i][j] for i in range(many) for j in range(many) if i != j])


def circles(some):
    """Tell the circles of a tuple with the next place for each place, by their least places, these first."""
    found = []
    gone = []
    for first in range(len(some)):
        if first not in gone:
            circle = circle_from(some, first)
            found.append(circle)
            gone.extend(circle)
    return found


def circle_from(some, first):
    """Tell the places from first on, each behind the one whose next it is."""
    circle = (first,)
    while some[circle[-1]] != first:
        circle = circle + (some[circle[-1]],)
    return circle
