"""Stage 5: shares of ways and cut prices of one worth, and the best prices."""

from homeround.errors import NotEven, TooFew, TooMany
from homeround.fractions import is_fraction, is_less, lowest, times, total
from homeround.kinds import are_wholes
from homeround.tables import is_even

LEAST_PLACES = 3
MOST_PLACES = 6
TWO = (2, 1)


def refuse_unfit(table):
    """Refuse a table that is not even, or has too few or too many places."""
    if not is_even(table):
        raise NotEven("shares are of even tables")
    if len(table) < LEAST_PLACES:
        raise TooFew("shares are of three places or more")
    if len(table) > MOST_PLACES:
        raise TooMany("shares are of six places at most")


def all_pairs(many):
    """Tell all pairs (i, j) of places, i less than j, sorted."""
    return [(i, j) for i in range(many) for j in range(i + 1, many)]


def all_sets(many):
    """Tell all sets of places but none and all, as rising tuples."""
    sets = [()]
    for place in range(many):
        sets = sets + [some + (place,) for some in sets]
    return sets[1:-1]


def does_part(some, i, j):
    """Tell whether just one of both places is in some."""
    return (i in some) != (j in some)


def shares(table):
    """Tell (worth, shares, cuts), all of one worth."""
    refuse_unfit(table)
    pairs = all_pairs(len(table))
    steps = price_steps(len(table))
    rows = first_rows(table, pairs, steps)
    held = [len(steps) + at for at in range(len(pairs))]
    bottom = climb(rows, held)
    # What a pair has left over is worth its share: by so much a longer way would let the prices rise.
    tops = rows[-1][len(steps):-1]
    found = [(i, j, lowest(top, bottom)) for (i, j), top in zip(pairs, tops) if top > 0]
    return lowest(rows[-1][-1], bottom), found, told_cuts(steps, rows, held, bottom)


def price_steps(many):
    """Tell the ways (some, sign) in which cut prices may rise or, of one place alone, fall from nothing.

    A set and all places outside it part the same pairs, so of each two those sets are enough that 0 isn't in,
    but for 0 alone.
    """
    sets = [some for some in all_sets(many) if some == (0,) or (0 not in some and len(some) < many - 1)]
    return [(some, 1) for some in sets] + [(some, -1) for some in sets if len(some) == 1]


def first_rows(table, pairs, steps):
    """Tell the rows at which no cut has a price: for each pair its steps, what is left over, and its way's length.

    The last row has what each step and what is left over adds to the worth, turned about, and the worth.
    """
    rows = []
    for i, j in pairs:
        taken = [sign if does_part(some, i, j) else 0 for some, sign in steps]
        rows.append(taken + [1 if pair == (i, j) else 0 for pair in pairs] + [table[i][j]])
    return rows + [[-2 * sign for some, sign in steps] + [0 for pair in pairs] + [0]]


def climb(rows, held):
    """Change rows and what each holds until no step adds to the worth, and tell the bottom of all numbers in them.

    These are whole numbers over one bottom; a division by the bottom ahead leaves nothing over.
    """
    bottom = 1
    column = rising_column(rows)
    while column is not None:
        at = tightest_row(rows, held, column)
        turn(rows, at, column, bottom)
        held[at] = column
        bottom = rows[at][column]
        column = rising_column(rows)
    return bottom


def rising_column(rows):
    """Tell the first column that adds to the worth, or None."""
    # The first one each time, here and of rows as tight, so that the steps never go round in a circle.
    for column, turned in enumerate(rows[-1][:-1]):
        if turned < 0:
            return column
    return None


def tightest_row(rows, held, column):
    """Tell the number of the row that lets the column rise least, of several the one that holds the first column."""
    best = None
    for at, row in enumerate(rows[:-1]):
        if row[column] > 0 and (best is None or is_tighter(rows, held, column, at, best)):
            best = at
    return best


def is_tighter(rows, held, column, at, other):
    """Tell whether a row lets the column rise less than another one, or as much and holds an earlier column."""
    one_room = rows[at][-1] * rows[other][column]
    other_room = rows[other][-1] * rows[at][column]
    return one_room < other_room or (one_room == other_room and held[at] < held[other])


def turn(rows, at, column, bottom):
    """Take the column out of all rows but one, which holds it from now on."""
    pivot = rows[at]
    for other in range(len(rows)):
        if other != at:
            factor = rows[other][column]
            rows[other] = [(part * pivot[column] - factor * own) // bottom for part, own in zip(rows[other], pivot)]


def told_cuts(steps, rows, held, bottom):
    """Tell the cut prices that rows hold in the end."""
    cuts = []
    for row, column in zip(rows, held):
        if column < len(steps) and row[-1] != 0:
            some, sign = steps[column]
            cuts.append((some, lowest(sign * row[-1], bottom)))
    return sorted(cuts)


def are_shares(table, some, worth):
    """Tell of any list whether it is one of shares of just the worth."""
    refuse_unfit(table)
    many = len(table)
    if not all([is_share(many, thing) for thing in some]) or not do_rise([thing[:2] for thing in some]):
        return False
    if not all([over_cut(some, (place,)) == TWO for place in range(many)]):
        return False
    if any([is_less(over_cut(some, cut), TWO) for cut in all_sets(many)]):
        return False
    return total([times(share, (table[i][j], 1)) for i, j, share in some]) == worth


def is_share(many, thing):
    """Tell of anything whether it is a pair of places with a fraction above 0."""
    if not isinstance(thing, tuple) or len(thing) != 3 or not are_wholes(thing[:2]):
        return False
    i, j, share = thing
    return 0 <= i < j < many and is_fraction(share) and share[0] > 0


def do_rise(some):
    """Tell whether each of some things is less than the next one."""
    return all([one < other for one, other in zip(some, some[1:])])


def over_cut(some, cut):
    """Tell what the shares of pairs with one place in a cut and one outside come to."""
    return total([share for i, j, share in some if does_part(cut, i, j)])


def are_cuts(table, some, worth):
    """Tell of any list whether it is one of cut prices of just the worth."""
    refuse_unfit(table)
    many = len(table)
    if not all([is_cut(many, thing) for thing in some]) or not do_rise([thing[0] for thing in some]):
        return False
    if any([is_less((table[i][j], 1), between(some, i, j)) for i, j in all_pairs(many)]):
        return False
    return times(TWO, total([price for cut, price in some])) == worth


def is_cut(many, thing):
    """Tell of anything whether it is a set of places, but none and all, with a fraction that it may have."""
    if not isinstance(thing, tuple) or len(thing) != 2:
        return False
    cut, price = thing
    if not are_wholes(cut) or cut not in all_sets(many) or not is_fraction(price):
        return False
    return price[0] > 0 or (len(cut) == 1 and price[0] < 0)


def between(some, i, j):
    """Tell what the prices of cuts with just one of both places in them come to."""
    return total([price for cut, price in some if does_part(cut, i, j)])


def best_prices(table):
    """Tell prices by which the bound of ties hung at 0 is the worth of the shares."""
    worth, found, cuts = shares(table)
    # No told cut has 0 in it but that of 0 alone. So a way at 0 counts 0 or more, and one between two other places
    # no less than minus twice what the cuts with both in them come to; of such ways a tree has fewer than a cut has
    # places.
    return tuple([total([price for cut, price in cuts if place in cut]) for place in range(len(table))])
