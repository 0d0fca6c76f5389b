"""Stage 4: least trees."""

from homeround.errors import NotEven
from homeround.kinds import is_tie, parts
from homeround.tables import is_even


def least_tree(table):
    """Tell (sum, ties): a tree with the least sum of lengths."""
    if not is_even(table):
        raise NotEven("trees are of even tables")
    ties = []
    inside = [0]
    outside = list(range(1, len(table)))
    while outside:
        # Some least tree has the shortest way out of any part of it that hangs together.
        way, one, other = min([(table[one][other], one, other) for one in inside for other in outside])
        ties.append((min(one, other), max(one, other)))
        inside.append(other)
        outside.remove(other)
    return tree_sum(table, ties), sorted(ties)


def tree_sum(table, ties):
    """Tell what the lengths of ties come to."""
    return sum([table[i][j] for i, j in ties])


def is_least_tree(table, ties):
    """Tell of any list whether it is a least tree of the table."""
    # Asked first, for an uneven table is refused whatever the list is.
    least = least_tree(table)[0]
    return is_tree(len(table), ties) and tree_sum(table, ties) == least


def is_tree(many, ties):
    """Tell of any list whether it is a tree of many places."""
    if not all([is_tie(many, thing) for thing in ties]):
        return False
    if len(ties) != many - 1 or sorted(ties) != ties:
        return False
    return len(parts(list(range(many)), ties)) == 1
