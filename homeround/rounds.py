"""Stage 6: rounds by trees, and by trees with pairs of their odd places."""

from homeround.errors import NotEven, NotStraight, TooFew
from homeround.kinds import tied_to, walked_from
from homeround.tables import is_even, is_straight
from homeround.trees import least_tree


def refuse_uneven(table):
    """Refuse a table that is not even."""
    if not is_even(table):
        raise NotEven("rounds by trees are of even tables")


def walked(table, ties):
    """Tell the round of the places as a walk round a tree first comes to them."""
    refuse_uneven(table)
    return tuple(walked_from(ties, 0, None))


def pairing(table, some):
    """Tell (sum, pairs): a pairing of some places of least sum."""
    refuse_uneven(table)
    return least_pairing(table, some)


def least_pairing(table, some):
    """Tell (sum, pairs), by trying each place as the one that the first one goes with."""
    if some == ():
        return 0, []
    first = some[0]
    tried = []
    for at in range(1, len(some)):
        rest, pairs = least_pairing(table, some[1:at] + some[at + 1:])
        tried.append((table[first][some[at]] + rest, [(first, some[at])] + pairs))
    return min(tried)


def by_pairs(table):
    """Tell (round, tree, pairs): a least tree, a least pairing of its odd places, a round no longer than both."""
    refuse_uneven(table)
    if not is_straight(table):
        raise NotStraight("rounds by pairs are of straight tables")
    if len(table) < 2:
        raise TooFew("rounds by pairs are of two places or more")
    tree = least_tree(table)[1]
    odd = tuple([place for place in range(len(table)) if len(tied_to(tree, place)) % 2 == 1])
    pairs = pairing(table, odd)[1]
    # In a straight table what is cut short is no longer.
    return cut_short(walk_along(tree + pairs)), tree, pairs


def walk_along(ties):
    """Tell a walk from 0 home along each tie once; an even number of ties stands at each place."""
    left = list(ties)
    going = [0]
    gone = []
    while going:
        onward = [tie for tie in left if going[-1] in tie]
        if onward:
            left.remove(onward[0])
            going.append(sum(onward[0]) - going[-1])
        else:
            # All ties here are gone along: the walk goes home from here, by what is told already.
            gone.append(going.pop())
    return gone


def cut_short(places):
    """Tell the round of the places as they first come."""
    found = ()
    for place in places:
        if place not in found:
            found = found + (place,)
    return found
