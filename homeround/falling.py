"""Stage 11: pyramids, and falling tables."""

from homeround.tables import length


def pyramid(table):
    """Tell (length, round): a shortest pyramid."""
    return min([(length(table, round_), round_) for round_ in pyramids(len(table))])


def pyramids(many):
    """Tell all rounds of many places that rise to the last one and fall home."""
    if many == 1:
        return [(0,)]
    found = [(many - 1,)]
    for place in range(many - 2, 0, -1):
        found = [(place,) + some for some in found] + [some + (place,) for some in found]
    return [(0,) + some for some in found]


def falling_or_four(table):
    """Tell ("falling",) where the table is falling, or ("four", (i, k, j, l)), four that break it."""
    many = len(table)
    found = [
        (i, k, j, l)
        for k in range(many) for i in range(k) for l in range(many) for j in range(l)
        if table[i][j] + table[k][l] > table[i][l] + table[k][j]
    ]
    if found:
        return "four", found[0]
    return ("falling",)
