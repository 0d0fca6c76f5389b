"""Stage 4: least trees hung at 0, with prices: bounds from below of even tables."""

from homeround.errors import NotEven, TooFew
from homeround.fractions import common_bottom, lowest, tops_over
from homeround.tables import is_even
from homeround.trees import least_tree


def hung(table, prices):
    """Tell (bound, ties): ties hung at 0 that count least, and what they count and twice all prices."""
    if not is_even(table):
        raise NotEven("ties are hung of even tables")
    if len(table) < 3:
        raise TooFew("ties are hung of three places or more")
    # Over one common bottom all counts are whole, and are held against one another as lengths are.
    bottom = common_bottom(prices)
    tops = tops_over(prices, bottom)
    counts = counted(table, tops, bottom)
    count, ties = least_tree(tuple([row[1:] for row in counts[1:]]))
    at_home = sorted([(counts[0][place], place) for place in range(1, len(table))])[:2]
    all_ties = [(0, place) for own, place in at_home] + [(i + 1, j + 1) for i, j in ties]
    whole = count + sum([own for own, place in at_home]) + 2 * sum(tops)
    return lowest(whole, bottom), sorted(all_ties)


def counted(table, tops, bottom):
    """Tell what each way counts with prices of these tops over the bottom, as a top over it, too."""
    return [
        tuple([way * bottom - tops[i] - tops[j] if i != j else 0 for j, way in enumerate(row)])
        for i, row in enumerate(table)
    ]
