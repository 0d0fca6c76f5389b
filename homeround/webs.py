"""Stage 12: webs, in which there is a round or none."""

from homeround.errors import TooFew
from homeround.kinds import MOST_PLACES, is_tie, is_whole, parts, tied_to
from homeround.shortest import shortest


def is_web(thing):
    """Tell of anything whether it is a web."""
    if not isinstance(thing, tuple) or len(thing) != 2:
        return False
    many, ties = thing
    if not is_whole(many) or not 1 <= many <= MOST_PLACES or not isinstance(ties, tuple):
        return False
    return all([is_tie(many, tie) for tie in ties]) and sorted(set(ties)) == list(ties)


def web_table(web):
    """Tell the table that has 0 for each tie, both ways, and 1 for all other ways."""
    many, ties = web
    return tuple([
        tuple([0 if i == j or are_tied(ties, i, j) else 1 for j in range(many)])
        for i in range(many)
    ])


def are_tied(ties, one, other):
    """Tell whether two places are tied, whichever is the lesser."""
    return (min(one, other), max(one, other)) in ties


def web_round(web):
    """Tell ("round", round), a round along ties alone, or ("none", floors), floors that show that there is none."""
    if web[0] < 3:
        raise TooFew("rounds of webs are of three places or more")
    # A round of the web is one of length 0 in its table; any other has a way of 1 in it.
    least, round_, floors = shortest(web_table(web))
    if least == 0:
        return "round", round_
    return "none", floors


def parting(web):
    """Tell places without which the web has more parts than they are, or None where there are none."""
    many, ties = web
    for some in some_places(many):
        rest = [place for place in range(many) if place not in some]
        if len(parts(rest, ties)) > len(some):
            return some
    return None


def some_places(many):
    """Tell all rising tuples of one or more of many places."""
    found = [()]
    for place in range(many):
        found = found + [some + (place,) for some in found]
    return found[1:]


def closed(web):
    """Tell (web, steps): the web that is left when no step may come any more, and the ties that came."""
    many, ties = web
    steps = []
    may = next_steps(many, ties)
    while may:
        steps.append(may[0])
        may = next_steps(many, ties + tuple(steps))
    return (many, tuple(sorted(ties + tuple(steps)))), steps


def next_steps(many, ties):
    """Tell each two untied places that have at least as many ties together as there are places."""
    counts = [len(tied_to(ties, place)) for place in range(many)]
    return [
        (i, j) for j in range(many) for i in range(j)
        if (i, j) not in ties and counts[i] + counts[j] >= many
    ]


def pulled(web, steps, round_):
    """Tell a round of the web, pulled back out of a round of the web with steps."""
    ties = web[1]
    found = round_
    # The last step goes first: at its time all others were there.
    for at in range(len(steps) - 1, -1, -1):
        found = without_tie(ties + tuple(steps[:at]), steps[at], found)
    return found


def without_tie(ties, tie, round_):
    """Tell a round along ties, of a round along them and one tie more, that came as a step."""
    chain = chain_between(tie, round_)
    if chain is None:
        return round_
    first, last = tie
    # Both ends have so many ties together that somewhere both are tied crosswise to two neighbours.
    crossed = [
        at for at in range(1, len(chain) - 1)
        if are_tied(ties, first, chain[at + 1]) and are_tied(ties, chain[at], last)
    ]
    at = crossed[0]
    return turned_to(chain[:at + 1] + chain[:at:-1], 0)


def chain_between(tie, round_):
    """Tell the places of a round from the one end of a tie to the other, or None where it does not go along it."""
    first, last = tie
    onward = turned_to(round_, first)
    back = onward[:1] + onward[:0:-1]
    for chain in (onward, back):
        if chain[-1] == last:
            return chain
    return None


def turned_to(places, first):
    """Tell the same circle of places, begun at another one."""
    at = places.index(first)
    return places[at:] + places[:at]
