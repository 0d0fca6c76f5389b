"""Stage 9: drawn trees, and the tables whose lengths are those of the ways along one."""

from homeround.errors import NoTable, NotEven
from homeround.fractions import common_bottom, is_fraction, lowest, tops_over
from homeround.kinds import LONGEST_WAY, MOST_PLACES, is_tie, parts, walked_from
from homeround.tables import is_even, length

MOST_DRAWN = 14


def is_drawn(thing, many):
    """Tell of anything whether it is a drawn tree whose first many places are those of a table."""
    if not isinstance(thing, tuple) or not 1 <= many <= MOST_PLACES:
        return False
    drawn_places = len(thing) + 1
    if not many <= drawn_places <= MOST_DRAWN:
        return False
    if not all([is_drawn_tie(drawn_places, part) for part in thing]) or sorted(thing) != list(thing):
        return False
    return len(parts(list(range(drawn_places)), bare_ties(thing))) == 1


def is_drawn_tie(many, thing):
    """Tell of anything whether it is a tie of two of many places, with a length."""
    if not isinstance(thing, tuple) or len(thing) != 3:
        return False
    return is_tie(many, thing[:2]) and is_fraction(thing[2]) and thing[2][0] >= 0


def bare_ties(drawn):
    """Tell the ties of a drawn tree without their lengths."""
    return [(i, j) for i, j, way in drawn]


def table_of(drawn, many):
    """Tell the table of the ways along a drawn tree between its first many places."""
    ways = [way for i, j, way in drawn]
    # Over one common bottom all lengths are whole.
    bottom = common_bottom(ways)
    ties = list(zip(bare_ties(drawn), tops_over(ways, bottom)))
    return tuple([tuple(table_row(ties, bottom, start, many)) for start in range(many)])


def table_row(ties, bottom, start, many):
    """Tell the lengths along the ties from start to each of the first many places."""
    tops = tops_from(ties, start)
    return [whole_way(tops[place], bottom) for place in range(many)]


def tops_from(ties, start):
    """Tell how far each place is from start along ties ((i, j), way) of a tree."""
    found = {start: 0}
    # Each time round one place at least is come to, until all are.
    for step in range(len(ties)):
        for (i, j), way in ties:
            if i in found and j not in found:
                found[j] = found[i] + way
            elif j in found and i not in found:
                found[i] = found[j] + way
    return found


def whole_way(top, bottom):
    """Tell the whole number that a top over a bottom comes to, as the length of a way."""
    if top % bottom != 0:
        raise NoTable("a way along the tree has no whole length")
    if top > LONGEST_WAY * bottom:
        raise NoTable("a way along the tree is too long")
    return top // bottom


def tree_or_four(table):
    """Tell ("tree", drawn), a drawn tree whose table it is, or ("four", places), four places that break it."""
    if not is_even(table):
        raise NotEven("tables of trees are even")
    four = breaking_four(table)
    if four is not None:
        return "four", four
    return "tree", draw(table)


def breaking_four(table):
    """Tell four places, perhaps like ones, by which the table is no tree's, or None where there are none."""
    many = len(table)
    # The two ways that are too long stand for one another, and so do the ends of each; one of them has unlike ends.
    found = [
        (i, j, k, l)
        for i in range(many) for j in range(i) for k in range(many) for l in range(k + 1)
        if does_break(table, i, j, k, l)
    ]
    return found[0] if found else None


def does_break(table, i, j, k, l):
    """Tell whether the ways ij and kl are longer than ik and jl, and than il and jk."""
    both = table[i][j] + table[k][l]
    return both > table[i][k] + table[j][l] and both > table[i][l] + table[j][k]


def draw(table):
    """Tell a drawn tree of a table that no four places break."""
    above = {}
    depths = {0: 0}
    for place in range(1, len(table)):
        hang(table, above, depths, place)
    ties = [
        (min(place, over), max(place, over), lowest(depths[place] - depths[over], 2))
        for place, over in above.items()
    ]
    return tuple(sorted(ties))


def hang(table, above, depths, place):
    """Hang the next place into a tree under 0: above has what each place hangs at, depths its way to 0, doubled."""
    # Two ways from 0 part at a whole number or halfway between two, so all depths are doubled.
    fork, spot = max([
        (table[0][place] + table[0][other] - table[other][place], other) for other in range(place)
    ])
    depth = 2 * table[0][place]
    while depths[spot] > fork and depths[above[spot]] >= fork:
        spot = above[spot]
    if depths[spot] > fork:
        # What lies within a tie parts it: the place itself, or else a place more of the tree alone.
        joint = place if depth == fork else len(table) + len(depths) - place
        above[joint] = above[spot]
        depths[joint] = fork
        above[spot] = joint
        spot = joint
    if spot != place:
        above[place] = spot
        depths[place] = depth


def tree_round(table):
    """Tell (length, round): a shortest round of a tree's table, by a walk round the drawn tree."""
    word, found = tree_or_four(table)
    if word == "four":
        raise NoTable("it is the table of no tree")
    places = walked_from(bare_ties(found), 0, None)
    round_ = tuple([place for place in places if place < len(table)])
    return length(table, round_), round_
